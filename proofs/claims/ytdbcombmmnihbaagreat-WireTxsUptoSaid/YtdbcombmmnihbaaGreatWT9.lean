/-
  Texts of ours, put together: WirXF, ScRefN, ScFold, ScRefAdd, ScRefMul, ScNum, EcJ, CrvJ, CrvK, CrvL, CrvM, CrvO, CrvP, CrvQ, EcW, CrvR, CrvS, CrvT, CrvU, CrvV, RefNumT, WirGQ, WirGT, WirGU, WirGV, WirGW.
-/
import Derived.Test.YtdbcombmmnihbaaGreatWT8
set_option linter.unusedVariables false
set_option linter.unusedSimpArgs false
set_option maxRecDepth 100000
set_option maxHeartbeats 80000000
namespace Go.Proofs.YtdbcombmmnihbaaGreat
section
namespace Wr
open Go.RowKit Sy
def NS (o:MOu):Nat:=o.range.length+o.surject.length+o.note.length+o.script.length
def Ok (i:MIs):Nat:=i.range.length
def Oj (p:MPg):Nat:=p.tx.length+(p.path.length+p.script.length)
def NT (i:MIn):Nat:=Ok i.issue+(Oj i.peg+(i.wit.length+(i.wit.map λx=>x.length).sum))
def Qu (t:MTr):Nat:=(t.ins.length+(t.ins.map NT).sum)+(t.outs.length+(t.outs.map NS).sum)
theorem T0 {α:Type} (l:List α):(l.map λ_=>0).sum=0:=by induction l with | nil=>rfl | cons a l ih=>rw [List.map_cons,List.sum_cons,ih]
theorem TI:Opn 143 4 O2 (λ_=>0):=⟨λ{H enc W fuel cs x} hl hf=>by
 match cs,hl with
 | [c0,c1,c2,c3],_ =>
  obtain ⟨n,h1,h2⟩:=Cu.words_trod Bh CF kZ hf
  refine ⟨n,⟨h2,h1⟩,λu hu=>?_,Cv _⟩
  rw [h2] at hu
  simp only [Cu.fws,List.mem_cons,List.not_mem_nil,or_false] at hu
  rcases hu with rfl|rfl|rfl|rfl <;> rfl⟩
theorem JR:Opn 140 1 T2 (λ_=>0):=UK Ff
theorem RL:Opn 63 58 Cf NS:=opn_out.as λC cs o h=>⟨o,h,Nat.le_refl _⟩
theorem RM:Opn 142 33 J8 (λ_=>0):=(TL SX kZ kZ kZ kZ Hp JR).as λC cs (a,b) ⟨a0,a1,e,⟨e0,h1⟩,⟨e1,h2⟩⟩=>by
 dsimp only at e0 e1 h1 h2
 subst e0 e1 e
 exact ⟨(a,b),⟨rfl,h1,h2⟩,Nat.zero_le _⟩
theorem RN:Opn 145 50 D4 Ok:=(PS E9 kZ kZ kZ kZ kZ kZ kZ kZ kZ kZ kZ kZ (PU uy3) MV opn_raw JQ Hp TI).as λC cs (k,a,r,t,n,s) ⟨a0,a1,a2,a3,a4,a5,ec,e0,⟨e1,h1⟩,⟨v2,e2,h2⟩,⟨e3,h3⟩,⟨e4,h4⟩,⟨e5,h5⟩⟩=>by
 obtain rfl:a0=[.int .i64 k]:=e0
 dsimp only at e1 e2 e3 e4 e5 h1 h2 h3 h4 h5
 subst e1 e2 e3 e4 e5 ec
 exact ⟨⟨k,a,r,t,n,s⟩,⟨v2,rfl,h1,h2,h3,h4,h5⟩,by show r.length≤0+0+r.length+0+0+0; omega⟩
theorem RK:Opn 148 37 D3 Oj:=(PS HH kZ kZ kZ kZ kZ kZ kZ kZ kZ kZ kZ kZ Hp opn_raw JR JR (KG Ck kZ dZ Hp) opn_raw).as λC cs (h,t,p,m,l,s) ⟨a0,a1,a2,a3,a4,a5,ec,⟨e0,h0⟩,⟨v1,e1,h1⟩,⟨e2,h2⟩,⟨e3,h3⟩,⟨v4,e4,h4⟩,⟨v5,e5,h5⟩⟩=>by
 dsimp only at e0 e1 e2 e3 e4 e5 h0 h1 h2 h3 h4 h5
 subst e0 e1 e2 e3 e4 e5 ec
 exact ⟨⟨h,t,p,m,l,s⟩,⟨v1,v4,v5,rfl,h0,h1,h2,h3,h4,h5⟩,by show t.length+(l.length+s.length)≤0+t.length+0+0+(l.length+(l.map λ_=>0).sum)+s.length; rw [T0]; omega⟩
theorem RO:Opn 151 122 CT NT:=(TK E8 kZ kZ kZ kZ kZ kZ kZ kZ kZ kZ (PU uy3) RM RN RK (KG DX kZ dZ opn_raw)).as λC cs (k,o,i,g,w) ⟨a0,a1,a2,a3,a4,ec,e0,⟨e1,h1,h1'⟩,h2,h3,⟨v4,e4,h4⟩⟩=>by
 obtain rfl:a0=[.int .i64 k]:=e0
 dsimp only at e1 e4 h1 h1' h2 h3 h4
 subst e1 e4 ec
 exact ⟨⟨k,o.1,o.2,i,g,w⟩,⟨a2,a3,v4,rfl,h1,h1',h2,h3,h4⟩,by show Ok i+(Oj g+(w.length+(w.map λx=>x.length).sum))≤0+0+Ok i+Oj g+(w.length+(w.map λx=>x.length).sum); omega⟩
theorem opn_txx:Opn 26 3 Cy Qu:=(JS EX kZ kZ kZ kZ kZ kZ JQ (KG EM kZ dZ RO) (KG EL kZ dZ RL)).as λC cs (a,i,o) ⟨a0,a1,a2,ec,⟨e0,h0⟩,⟨v1,e1,h1⟩,⟨v2,e2,h2⟩⟩=>by
 dsimp only at e0 e1 e2 h0 h1 h2
 subst e0 e1 e2 ec
 exact ⟨⟨a,i,o⟩,⟨v1,v2,rfl,h0,h1,h2⟩,by show (i.length+(i.map NT).sum)+(o.length+(o.map NS).sum)≤0+(i.length+(i.map NT).sum)+(o.length+(o.map NS).sum); omega⟩
end Wr
end
section
namespace Sc
open Go.RowKit Go.Lib
def Hx:Value:=.agg #[.int .u64 13822214165235122497,.int .u64 13451932020343611451,.int .u64 18446744073709551614,.int .u64 18446744073709551615,.int .u64 4624529908474429119,.int .u64 4994812053365940164,.int .u64 1]
theorem Lr:fv 115792089237316195423570985008687907852837564279074904382605163141518161494337=.agg #[.int .u64 13822214165235122497,.int .u64 13451932020343611451,.int .u64 18446744073709551614,.int .u64 18446744073709551615]:=rfl
theorem refN_any (w:World):Calls Tryz.prog 220 #[] w λe w'=>e=.returned Hx∧Below w.heap.size w w':=by
 go_enter Tryz.func220,Tryz.ntmps220
 go_wp2
 exact bodyPost_ret (results_cell_row J _ _ w.heap.size _ _ (0,0) _ J (heap_alloc_new w _) DW J kZ) rfl ⟨rfl,(Below.refl _ _).alloc (Nat.le_refl _) _⟩
theorem refOf_any (w:World) (n:Nat) (hn:n<(2^256)):Calls Tryz.prog 241 #[fv n] w λe w'=>e=.returned (fv n)∧Below w.heap.size w w':=by
 obtain ⟨a,b,c,d,fn⟩:=Ad n hn
 rw [fn]
 clear fn
 go_enter Tryz.func241,Tryz.ntmps241
 go_wp2
 exact bodyPost_ret (results_cell_row J _ _ (w.heap.size+1) _ _ (0,0) _ J (heap_alloc2_new w _ _) AU J kZ) rfl ⟨rfl,AY w _ _⟩
theorem refSc_any (w:World) (n:Nat) (hn:n<(2^256)):Calls Tryz.prog 221 #[fv n] w λe w'=>e=.returned (fv n)∧Below w.heap.size w w':=by
 obtain ⟨a,b,c,d,fn⟩:=Ad n hn
 rw [fn]
 clear fn
 go_enter Tryz.func221,Tryz.ntmps221
 go_wp2
 exact bodyPost_ret (results_cell_row J _ _ (w.heap.size+1) _ _ (0,0) _ J (heap_alloc2_new w _ _) Bh J kZ) rfl ⟨rfl,AY w _ _⟩
theorem normR_any (w:World) (x:Nat) (hx:x<(2^256)):Calls Tryz.prog 240 #[Hx,fv x] w λe w'=>e=.returned (fv (x%pM))∧Below w.heap.size w w':=by
 obtain ⟨z,hz⟩:=xE (x%pM)
 obtain ⟨p,hp⟩:∃ p,p=115792089237316195423570985008687907852837564279074904382605163141518161494337:=⟨_,rfl⟩
 have hpl:p<(2^256):=om
 obtain ⟨b,hb⟩:=xE (decide (x<p))
 have cb:∀ w,Calls Tryz.prog 247 #[fv x,fv p] w λe w'=>e=.returned (.bool b)∧Below w.heap.size w w':=by
  intro w; rw [hb]; exact GF w x p J J hx hpl
 have t1:b=true→z=x:=λh=>by
  rw [hb] at h
  rw [hz]
  exact Nat.mod_eq_of_lt (by rw [D7, ← hp]; simpa using h)
 have cm:b=false→∀ w,Calls Tryz.prog 267 #[fv x,fv p] w λe w'=>e=.returned (fv z)∧Below w.heap.size w w':=λh w=>by
  rw [hb] at h
  have hle:¬ x<p:=by simpa using h
  have hzx:z+p=x:=by rw [hz,Fk x hx,if_neg om]; omega
  exact GR w x p z 0 J J hx hpl om om
 have hpc:fv p=.agg #[.int .u64 13822214165235122497,.int .u64 13451932020343611451,.int .u64 18446744073709551614,.int .u64 18446744073709551615]:=by rw [hp]; exact Lr
 obtain ⟨x0,x1,x2,x3,fx⟩:=Ad x hx
 have FX:=Lib.hid fx
 have FP:=Lib.hid hpc
 rw [fx, ← hz]
 unfold Hx
 clear fx hpc hx hz hp hpl hb
 go_enter Tryz.func240,Tryz.ntmps240
 go_wp2_with (first | ((with_reducible refine AE (d:=some 6) ?_); refine AC J _ _ J (w.heap.size+1) rfl x _ _ _ ((AZ w _ _ _).alloc _) FX.out AU J kZ ?_) | ((with_reducible refine AE (d:=some 8) ?_); refine Bn J _ _ J w.heap.size J p [.int .u64 13822214165235122497,.int .u64 13451932020343611451,.int .u64 18446744073709551614,.int .u64 18446744073709551615] _ (Cp (((Blk.new w _ _).alloc _).alloc _)) FP.out AU J kZ ?_))
 refine (cb _).mono ?_
 rintro e w1 ⟨rfl,k1⟩
 have BM:Blk w1 w.heap.size 366 _:=Gr.blk k1 (((Blk.new w _ _).alloc _).alloc _)
 have BX:Blk w1 (w.heap.size+1) 359 _:=Gr.blk k1 ((AZ w _ _ _).alloc _)
 have BR:Blk w1 (w.heap.size+2) 359 _:=Gr.blk k1 (Ax w _ _ _ _)
 have hB:=Below.gr (AX w _ _ _) k1
 clear k1 cb
 cases b
 ·have cmm:=cm J
  clear cm t1
  go_wp2_with (first | ((with_reducible refine AE (d:=some 12) ?_); refine AC J _ _ J (w.heap.size+1) rfl x _ _ _ BX FX.out AU J kZ ?_) | ((with_reducible refine AE (d:=some 14) ?_); refine Bn J _ _ J w.heap.size J p [.int .u64 13822214165235122497,.int .u64 13451932020343611451,.int .u64 18446744073709551614,.int .u64 18446744073709551615] _ (Cp BM) FP.out AU J kZ ?_))
  refine (cmm _).mono ?_
  rintro e w2 ⟨rfl,k2⟩
  have BR2:=Gr.blk k2 BR
  have hB2:=Below.gr hB k2
  clear k2 cmm
  go_wp2_with ((with_reducible refine AF ?_); refine AB J _ _ _ J (w.heap.size+2) (fcs z) J J _ _ BR2 kZ (by rfl) (AM _) ?_; intro w9 hL9 hB9 hK9)
  exact bodyPost_ret (results_cell_row J _ _ (w.heap.size+2) _ _ (0,0) _ J hL9 AU J kZ) rfl ⟨rfl,hB2.trans (hB9 _ om)⟩
 ·have HZX:=Lib.hid (t1 J)
  clear t1 cm
  go_wp2_with (first | ((with_reducible refine AE (d:=some 11) ?_); refine AC J _ _ J (w.heap.size+1) rfl x _ _ _ BX FX.out AU J kZ ?_) | ((with_reducible refine AF ?_); refine AB J _ _ _ J (w.heap.size+2) (fcs x) J J _ _ BR kZ (by rfl) (AM _) ?_; intro w9 hL9 hB9 hK9))
  exact bodyPost_ret (results_cell_row J _ _ (w.heap.size+2) _ _ (0,0) _ J hL9 AU J kZ) rfl ⟨by rw [HZX.out]; rfl,hB.trans (hB9 _ om)⟩
theorem rightR_any (w:World) (x:Nat) (hx:x<(2^256)):Calls Tryz.prog 219 #[Hx,fv x] w λe w'=>e=.returned (.bool (decide (x<pM)))∧Below w.heap.size w w':=by
 obtain ⟨p,hp⟩:∃ p,p=115792089237316195423570985008687907852837564279074904382605163141518161494337:=⟨_,rfl⟩
 obtain ⟨b,hb⟩:=xE (decide (x<pM))
 have cb:∀ w,Calls Tryz.prog 247 #[fv x,fv p] w λe w'=>e=.returned (.bool b)∧Below w.heap.size w w':=by
  intro w; rw [hb,D7, ← hp]; exact GF w x p J J hx om
 have hpc:fv p=.agg #[.int .u64 13822214165235122497,.int .u64 13451932020343611451,.int .u64 18446744073709551614,.int .u64 18446744073709551615]:=by rw [hp]; exact Lr
 obtain ⟨x0,x1,x2,x3,fx⟩:=Ad x hx
 have FX:=Lib.hid fx
 have FP:=Lib.hid hpc
 rw [fx, ← hb]
 unfold Hx
 clear fx hpc hx hp hb
 go_enter Tryz.func219,Tryz.ntmps219
 go_wp2_with (first | ((with_reducible refine AE (d:=some 5) ?_); refine AC J _ _ J (w.heap.size+1) rfl x _ _ _ (AZ w _ _ _) FX.out AU J kZ ?_) | ((with_reducible refine AE (d:=some 7) ?_); refine Bn J _ _ J w.heap.size J p [.int .u64 13822214165235122497,.int .u64 13451932020343611451,.int .u64 18446744073709551614,.int .u64 18446744073709551615] _ (Cp ((Blk.new w _ _).alloc _)) FP.out AU J kZ ?_))
 refine (cb _).mono ?_
 rintro e w1 ⟨rfl,k1⟩
 go_wp2
 go_ret
 exact ⟨rfl,Below.gr (AY w _ _) k1⟩
section
variable {P:Program} {ops:Array Oper}
end
end Sc
end
section
namespace Nt
end Nt
end
section
namespace Ec
variable {n:Nat} [NeZero n] {inv:Fin n→Fin n}
end Ec
end
section
namespace Cu
open Go.RowKit Sy
end Cu
end
section
namespace Ec
variable {n:Nat} [NeZero n] {inv:Fin n→Fin n} {α:Type}
end Ec
end
section
namespace Cu
open Go.RowKit Sy
def UR:Array Value:=#[.int .u64 13822214165235122497,.int .u64 13451932020343611451,.int .u64 18446744073709551614,.int .u64 18446744073709551615,.int .u64 4624529908474429119,.int .u64 4994812053365940164,.int .u64 1]
end Cu
end
section
section
open Go.RowKit Go.Lib
theorem KI (w:World) (g o cap:Nat) (l:Ao) (hl:l.length=32) (hg:g<w.heap.size) (hcell:∀ j u,l[j]? = some u→w.cell? ⟨g,o+j,none⟩=some (bv u)) (_:32≤cap) (_:cap≤9223372036854775807):Calls Tryz.prog 218 #[.slice (some ⟨g,o,none⟩) 32 cap] w λe w'=>e=.returned (fv (Ag l))∧Below w.heap.size w w':=by
 have HL:=Lib.hid hl
 have HG:=Lib.hid hcell
 clear hl hcell
 go_enter Tryz.func218,Tryz.ntmps218
 go_wp2_with fail
 go_loopw [4] (λi wr=>∃ k y0 y1 y2 y3:Nat,k≤32∧i=.int .i64 (k:Int)∧Hid (y0=wdB l k 0∧y1=wdB l k 1∧y2=wdB l k 2∧y3=wdB l k 3)∧Below w.heap.size w wr∧Blk wr (w.heap.size+1) 359 #[.int .u64 (y3:Int),.int .u64 (y2:Int),.int .u64 (y1:Int),.int .u64 (y0:Int)]∧Blk wr w.heap.size 359 #[.int .u64 0,.int .u64 0,.int .u64 0,.int .u64 0]) (λi _=>32 - (intOf i).toNat)
 case atStart=>exact ⟨0,0,0,0,0,by omega,rfl,Lib.hid ⟨(Be l 0).symm,(Be l 1).symm,(Be l 2).symm,(Be l 3).symm⟩,AY w _ _,AZ w _ _ _,(Blk.new w _ _).alloc _⟩
 case round =>
  obtain ⟨k,y0,y1,y2,y3,hk,rfl,HY,hb,hP,hR⟩:=hrel
  have q3:wr.cell? ⟨w.heap.size+1,0,none⟩=some (.int .u64 (y3:Int)):=hP.cell 0
  have q2:wr.cell? ⟨w.heap.size+1,1,none⟩=some (.int .u64 (y2:Int)):=hP.cell 1
  have q1:wr.cell? ⟨w.heap.size+1,2,none⟩=some (.int .u64 (y1:Int)):=hP.cell 2
  have q0:wr.cell? ⟨w.heap.size+1,3,none⟩=some (.int .u64 (y0:Int)):=hP.cell 3
  have ff:∀ j,wr.frozen? ⟨w.heap.size+1,j,none⟩=false:=λj=>hP.frozen j
  by_cases hlt:k<32
  ·obtain ⟨c,hc⟩:∃ c,l[k]? = some c:=⟨l[k]'(by rw [HL.out]; exact hlt),List.getElem?_eq_getElem _⟩
   have HC:=Lib.hid hc
   obtain ⟨m,hm⟩:=xE c.toNat
   have hm8:m<256:=by rw [hm]; exact c.toNat_lt
   have hI:wr.cell? ⟨g,o+k,none⟩=some (.int .u8 (m:Int)):=by
    rw [hm]
    exact (hb.cell (p:=⟨g,o+k,none⟩) hg).trans (HG.out k c hc)
   have HM:=Lib.hid hm
   have HR:=Lib.hid (And.intro hb (And.intro hP hR))
   clear hb hP hR hc hk hm
   rcases (C7 k) with rfl|rfl|rfl|rfl|rfl|rfl|rfl|rfl|rfl|rfl|rfl|rfl|rfl|rfl|rfl|rfl|rfl|rfl|rfl|rfl|rfl|rfl|rfl|rfl|rfl|rfl|rfl|rfl|rfl|rfl|rfl|rfl
   all_goals try rw [Nat.add_zero] at hI
   all_goals
    first
    | ((have hy:y0<72057594037927936:=by rw [HY.out.1]; exact Cg l _ 0 dZ); go_wp2; go_region; all_goals go_wp2; all_goals (refine ⟨⟨_,y0*256+m,y1,y2,y3,by decide,rfl,Lib.hid ⟨by rw [HY.out.1,HM.out]; exact (Bf l _ 0 c HC.out dZ).symm,by rw [HY.out.2.1]; exact (AR l _ 1 dZ).symm,by rw [HY.out.2.2.1]; exact (AR l _ 2 dZ).symm,by rw [HY.out.2.2.2]; exact (AR l _ 3 dZ).symm⟩,(HR.out.1.setCell (by show w.heap.size≤w.heap.size+1; omega) _).drew,Blk.drew (Blk.eq_ (HR.out.2.1.set_ 3 _) (by rw [show ((y0*256+m:Nat):Int)=(y0:Int)*256+(m:Int) by omega]; rfl)),Blk.drew (HR.out.2.2.far (by show w.heap.size≠w.heap.size+1; omega) _)⟩,by simp [intOf]⟩))
    | ((have hy:y1<72057594037927936:=by rw [HY.out.2.1]; exact Cg l _ 1 dZ); go_wp2; go_region; all_goals go_wp2; all_goals (refine ⟨⟨_,y0,y1*256+m,y2,y3,by decide,rfl,Lib.hid ⟨by rw [HY.out.1]; exact (AR l _ 0 dZ).symm,by rw [HY.out.2.1,HM.out]; exact (Bf l _ 1 c HC.out dZ).symm,by rw [HY.out.2.2.1]; exact (AR l _ 2 dZ).symm,by rw [HY.out.2.2.2]; exact (AR l _ 3 dZ).symm⟩,(HR.out.1.setCell (by show w.heap.size≤w.heap.size+1; omega) _).drew,Blk.drew (Blk.eq_ (HR.out.2.1.set_ 2 _) (by rw [show ((y1*256+m:Nat):Int)=(y1:Int)*256+(m:Int) by omega]; rfl)),Blk.drew (HR.out.2.2.far (by show w.heap.size≠w.heap.size+1; omega) _)⟩,by simp [intOf]⟩))
    | ((have hy:y2<72057594037927936:=by rw [HY.out.2.2.1]; exact Cg l _ 2 dZ); go_wp2; go_region; all_goals go_wp2; all_goals (refine ⟨⟨_,y0,y1,y2*256+m,y3,by decide,rfl,Lib.hid ⟨by rw [HY.out.1]; exact (AR l _ 0 dZ).symm,by rw [HY.out.2.1]; exact (AR l _ 1 dZ).symm,by rw [HY.out.2.2.1,HM.out]; exact (Bf l _ 2 c HC.out dZ).symm,by rw [HY.out.2.2.2]; exact (AR l _ 3 dZ).symm⟩,(HR.out.1.setCell (by show w.heap.size≤w.heap.size+1; omega) _).drew,Blk.drew (Blk.eq_ (HR.out.2.1.set_ 1 _) (by rw [show ((y2*256+m:Nat):Int)=(y2:Int)*256+(m:Int) by omega]; rfl)),Blk.drew (HR.out.2.2.far (by show w.heap.size≠w.heap.size+1; omega) _)⟩,by simp [intOf]⟩))
    | ((have hy:y3<72057594037927936:=by rw [HY.out.2.2.2]; exact Cg l _ 3 dZ); go_wp2; go_region; all_goals go_wp2; all_goals (refine ⟨⟨_,y0,y1,y2,y3*256+m,by decide,rfl,Lib.hid ⟨by rw [HY.out.1]; exact (AR l _ 0 dZ).symm,by rw [HY.out.2.1]; exact (AR l _ 1 dZ).symm,by rw [HY.out.2.2.1]; exact (AR l _ 2 dZ).symm,by rw [HY.out.2.2.2,HM.out]; exact (Bf l _ 3 c HC.out dZ).symm⟩,(HR.out.1.setCell (by show w.heap.size≤w.heap.size+1; omega) _).drew,Blk.drew (Blk.eq_ (HR.out.2.1.set_ 0 _) (by rw [show ((y3*256+m:Nat):Int)=(y3:Int)*256+(m:Int) by omega]; rfl)),Blk.drew (HR.out.2.2.far (by show w.heap.size≠w.heap.size+1; omega) _)⟩,by simp [intOf]⟩))
  ·have p1:¬ (k:Int)<32:=om
   obtain rfl:k=32:=om
   have b0:y0<18446744073709551616:=by rw [HY.out.1]; exact B8 l _ _
   have b1:y1<18446744073709551616:=by rw [HY.out.2.1]; exact B8 l _ _
   have b2:y2<18446744073709551616:=by rw [HY.out.2.2.1]; exact B8 l _ _
   have b3:y3<18446744073709551616:=by rw [HY.out.2.2.2]; exact B8 l _ _
   obtain ⟨z,hz⟩:=xE (y3+18446744073709551616*y2+340282366920938463463374607431768211456*y1+6277101735386680763835789423207666416102355444464034512896*y0)
   have fz:=Cs y3 y2 y1 y0 b3 b2 b1 b0
   rw [← hz] at fz
   have hzv:Ag l=z:=by rw [Gt l HL.out,hz,HY.out.1,HY.out.2.1,HY.out.2.2.1,HY.out.2.2.2]
   have HZ:=Lib.hid hzv
   have FZ:=Lib.hid fz.symm
   have HP:=Lib.hid hP
   have HR:=Lib.hid hR
   clear HY b0 b1 b2 b3 hz fz hzv q0 q1 q2 q3 ff hP hR
   go_wp2_with (first | ((with_reducible refine AE (d:=some 31) ?_); refine AC J _ _ J (w.heap.size+1) rfl z _ _ _ HP.out FZ.out AU J kZ ?_) | ((with_reducible refine AF ?_); refine AB J _ _ _ J w.heap.size (fcs z) J J _ _ HR.out kZ (by rfl) (AM _) ?_; intro vz hLz hqz hKz))
   exact bodyPost_ret (results_cell_row J _ _ w.heap.size _ _ (0,0) _ J hLz AU J kZ) rfl ⟨by rw [HZ.out]; rfl,hb.trans (hqz _ om)⟩
end
end
section
namespace Cu
open Go.RowKit Sy
theorem SJ (w:World) (x:Nat) (hx:x<K4):Calls Tryz.prog 214 #[fv x] w (A0 w (λvq Mq=>∃ (g:Nat) (sp:List Value) (cap:Nat),vq=.slice (pA g) 32 cap∧(32≤cap∧cap≤9223372036854775807)∧Mq=[(g,5,((AV x).map bv++sp).toArray)])):=by
 refine (ID w x hx).mono ?_
 rintro e w' ⟨g,cap,rfl,ho,hl,hb⟩
 rcases ho.2 with ⟨h0,_⟩ | ⟨g',cap',cur,hv,hg,hk,q3,q4,q5,q6⟩
 ·cases h0
 ·cases hv
  have h32:=AN x
  rw [AN] at q6
  have hc:cur=((AV x).map bv++cur.toList.drop 32).toArray:=by
   rw [Nat.mul_one] at q6
   rw [← q6,List.take_append_drop]
  refine ⟨_,[(g,5,cur)],rfl,⟨g,cur.toList.drop 32,cap,rfl,⟨by omega,by simp only [maxLen] at q4; omega⟩,by rw [← hc]⟩,hb,λg1 t1 cs1 hm=>?_,by simp⟩
  simp only [List.mem_singleton,Prod.mk.injEq] at hm
  obtain ⟨rfl,rfl,rfl⟩:=hm
  exact ⟨by omega,hk⟩
theorem nsc_any (w:World) (a:Nat) (ha:a<K4):AL 213 #[fv a] w (Ai w (fv (a%Sc.pM))):=by
 refine Sy.enter (args:=[fv a]) Tryz.func213 J kL<|sC<|sM 143 (fcs a) (λg0=>?_)
 refine sM 143 (fcs 0) (λg1=>?_)
 refine sH (λj=>j == 5) ?_
 refine sD 0 J (.agg UR) (qf Sc.refN_any)<|sD 1 J (fv a) (qk 0 0 4 J J Bh)<|sD 2 J (fv a) (qf (λw=>Sc.refOf_any w a (by first | assumption | exact Sc.mod_lt _ | exact lt4 _ | exact Bo _ (by first | assumption | exact AN _) | decide +kernel)))<|sD 3 J (fv (a%Sc.pM)) (qf (λw=>Sc.normR_any w a (by first | assumption | exact Sc.mod_lt _ | exact lt4 _ | exact Bo _ (by first | assumption | exact AN _) | decide +kernel)))<|sD 4 J (fv (a%Sc.pM)) (qf (λw=>Sc.refSc_any w (a%Sc.pM) (by first | assumption | exact Sc.mod_lt _ | exact lt4 _ | exact Bo _ (by first | assumption | exact AN _) | decide +kernel)))<|sx 5 J 1 J (fcs (a%Sc.pM)) (wA J)<|sI<|Sy.ret ?_
 exact rc (v:=fv (a%Sc.pM)) 1 J J Bh
theorem bscN (w:World) (a:Nat) (ha:a<K4):AL 176 #[fv a] w (A0 w (λvq Mq=>∃ (g:Nat) (sp:List Value) (cap:Nat),vq=.slice (pA g) 32 cap∧(32≤cap∧cap≤9223372036854775807)∧Mq=[(g,5,((AV (a%Sc.pM)).map bv++sp).toArray)])):=by
 refine Sy.enter (args:=[fv a]) Tryz.func176 J kL<|sC<|sM 143 (fcs a) (λg0=>?_)
 refine sP (.slice none 0 0)<|sA<|sS (fv a) (qk 0 0 4 J J Bh)<|sS (fv (a%Sc.pM)) (qf (λw=>nsc_any w a (by first | assumption | exact Sc.mod_lt _ | exact lt4 _ | exact Bo _ (by first | assumption | exact AN _) | decide +kernel)))<|sS (fv (a%Sc.pM)) (qf (λw=>refOf_any w (a%Sc.pM) (by first | assumption | exact Sc.mod_lt _ | exact lt4 _ | exact Bo _ (by first | assumption | exact AN _) | decide +kernel)))<|Sy.callN kR 214 #[fv (a%Sc.pM)] kF (λvq Mq=>∃ (g:Nat) (sp:List Value) (cap:Nat),vq=.slice (pA g) 32 cap∧(32≤cap∧cap≤9223372036854775807)∧Mq=[(g,5,((AV (a%Sc.pM)).map bv++sp).toArray)]) (λw _=>SJ w (a%Sc.pM) (by first | assumption | exact Sc.mod_lt _ | exact lt4 _ | exact Bo _ (by first | assumption | exact AN _) | decide +kernel)) (λvq Mq hR0=>?_)
 obtain ⟨go1,spo1,cpo1,rfl,hcpo1,rfl⟩:=hR0
 refine sP (.slice (pA go1) 32 cpo1)<|sG<|Sy.ret ?_
 exact Q0 1 (go1,5,((AV (a%Sc.pM)).map bv++spo1).toArray) rfl (v:=.slice (pA go1) 32 cpo1) (.inl (show _=_ by kernel_rfl)) kR ⟨go1,spo1,cpo1,rfl,hcpo1,rfl⟩
theorem rdR_off (w:World) (g o cp:Nat) (l:Ao) (hl:l.length=32) (hg:g<w.heap.size) (hc:∀ j u,l[j]? = some u→w.cell? ⟨g,o+j,none⟩=some (bv u)) (h1:32≤cp) (h2:cp≤9223372036854775807):AL 180 #[.slice (some ⟨g,o,none⟩) 32 cp] w (Ai w (.tuple #[fv (Sc.readS l).1,.bool (Sc.readS l).2])):=by
 refine Sy.enter (args:=[.slice (some ⟨g,o,none⟩) 32 cp]) Tryz.func180 J kL<|sC<|sM 143 (fcs 0) (λg0=>?_)
 refine sP (.bool false)<|sA<|sP (.slice (some ⟨g,o,none⟩) 32 cp)<|sS (fv (Ag l)) (qg (λw hw=>KI w g o cp l hl (Nat.lt_of_lt_of_le hg hw.below.size) (λj u hj=>(Below.cell (p:=⟨g,o+j,none⟩) hw.below hg).trans (hc j u hj)) h1 h2))<|sM 359 (fcs 0) (λg1=>?_)
 refine sw 1 J (fcs (Ag l)) (wA J)<|sH (λj=>false) ?_
 refine sD 0 J (.agg UR) (qf Sc.refN_any)<|sD 1 J (fv (Ag l)) (qk 1 0 4 J J AU) ?_
 obtain ⟨b1,hb1⟩:=xE (decide (Ag l<Sc.pM))
 refine sD 2 J (.bool b1) (qf (λw=>by rw [hb1]; exact Sc.rightR_any w (Ag l) (Bo l hl)))<|sZ 3 J (.bool b1)<|sI<|Sy.seq<|sC<|sP (.slice (some ⟨g,o,none⟩) 32 cp)<|sP (.int .i64 32)<|sP (.bool false)<|sP (.bool false)<|sP (.bool b1) ?_
 cases b1
 ·refine sP (.bool true)<|sP (.bool true) ?_
  refine sG<|sT<|sC<|sP (fv 0)<|sw 0 J (fcs 0) (wA J)<|sP (.bool false)<|sG<|Sy.ret<|Sy.then_ret ?_
  rw [show (.tuple #[fv (Sc.readS l).1,.bool (Sc.readS l).2]:Value)=.tuple #[fv 0,.bool false] from by unfold Sc.readS; rw [if_neg (of_decide_eq_false hb1.symm)]]
  exact Sy.ret2 (v:=fv 0) (u:=.bool false) rfl (.inl (Res.cell (ty':=143) g0 0 (fcs 0) _ kR kR Bh J kR kR)) (.inl (show _=_ by kernel_rfl))
 ·refine sP (.bool false)<|sP (.bool false) ?_
  refine sG<|sU<|Sy.skip<|sB<|sS (fv (Ag l)) (qk 1 0 4 J J AU)<|sS (fv (Ag l)) (qf (λw=>Sc.refSc_any w (Ag l) (by first | assumption | exact Sc.mod_lt _ | exact lt4 _ | exact Bo _ (by first | assumption | exact AN _) | decide +kernel)))<|sw 0 J (fcs (Ag l)) (wA J)<|sP (.bool true)<|sG<|Sy.ret ?_
  rw [show (.tuple #[fv (Sc.readS l).1,.bool (Sc.readS l).2]:Value)=.tuple #[fv (Ag l),.bool true] from by unfold Sc.readS; rw [if_pos (of_decide_eq_true hb1.symm)]]
  exact Sy.ret2 (v:=fv (Ag l)) (u:=.bool true) rfl (.inl (Res.cell (ty':=143) g0 0 (fcs (Ag l)) _ kR kR Bh J kR kR)) (.inl (show _=_ by kernel_rfl))
end Cu
end
section
namespace Wr
open Go.RowKit Sy
theorem Mx (w0:Base) (gw:Nat) (bad:Bool) (s:Slc) (R:AA) (b:Byt) (x:Byt) (hx:x.length=32) (hb:BS s b) (hl:b.length+32≤70368744177000) (w:World) (hw:St w0 w (WB gw bad s R)) :
  Calls Tryz.prog 144 #[ptr gw,.agg (x.map bv).toArray] w (AQ w0 (Wd gw R true x 32 bad b)) :=
 (Ko w0 gw bad s R b x hx hb om w hw).mono λe w' ⟨v,M,h1,⟨r,h2,h3⟩,h4⟩=>⟨v,M,h1,⟨r,bad,_,Wrote.raw x bad b om,h2,h3⟩,h4⟩
theorem KJ (k:Nat) (hk:k≤8) (w0:Base) (gw:Nat) (bad:Bool) (s:Slc) (R:AA) (b:Byt) (n:Nat) (hn:n<18446744073709551616) (hb:BS s b) (hl:b.length+k≤70368744177000) (w:World) (hw:St w0 w (WB gw bad s R)) :
  Calls Tryz.prog 63 #[ptr gw,.int .u64 (n:Int),.int .i64 (k:Int)] w (AQ w0 (Wd gw R true (nb k n) k bad b)) :=
 (KK w0 gw bad s R b n k hn hk hb om w hw).mono λe w' ⟨v,M,h1,⟨r,h2,h3⟩,h4⟩=>⟨v,M,h1,⟨r,bad,_,Wrote.raw (nb k n) bad b (by rw [Ch]; exact Nat.le_refl _),h2,h3⟩,h4⟩
theorem OU (w:World) (n:Nat) (hn:n<Cu.K4):AL 175 #[fv n] w (Ai w (.bool (JV n))):=by
 refine Sy.enter (args:=[fv n]) Tryz.func175 J kL<|sC<|sM 143 (fcs n) (λg1=>?_)
 refine sP (.bool false)<|sH (λ_=>false) ?_
 refine sD 0 J (fv n) (qk 0 0 4 J J Bh)<|sD 1 J (fv (n%Sc.pM)) (qf (λw=>Cu.nsc_any w n hn))<|sD 2 J (fv n) (qk 0 0 4 J J Bh)<|sv 3 J (.bool (JV n)) (λw=>Kk w _ _ _ _ (n%Sc.pM) n J J J (Nat.lt_trans (Nat.mod_lt _ dZ) dZ) hn)<|sz 4 J J<|sI<|Sy.ret ?_
 exact rV (.bool (JV n)) J
theorem Pc (w:World) (p:MPg) (A1 A2 A3:Option Addr) (n1 c1 n2 c2 n3 c3:Nat) (k1:p.tx.length=n1) (k2:p.path.length=n2) (k3:p.script.length=n3) (h0:p.header.length=32) :
  AL 121 #[.agg (cPG p (.slice A1 n1 c1) (.slice A2 n2 c2) (.slice A3 n3 c3)).toArray] w (Ai w (.bool (DL p))):=by
 obtain ⟨hd,tx,pl,mn,pa,sq⟩:=p
 dsimp only at k1 k2 k3 h0
 have m0:(hd.map bv).length=32:=by rw [List.length_map,h0]
 have hlen:(cPG ⟨hd,tx,pl,mn,pa,sq⟩ (.slice A1 n1 c1) (.slice A2 n2 c2) (.slice A3 n3 c3)).length=37:=by simp only [cPG,List.length_append,m0]; rfl
 have hnul:DL ⟨hd,tx,pl,mn,pa,sq⟩=(decide (hd=z32) && (decide (n1=0) && (decide (pl=0) && (decide (mn=0) && (decide (n2=0) && decide (n3=0)))))):=by unfold DL; dsimp only; rw [k1,k2,k3]
 refine Sy.enter (args:=[.agg (cPG ⟨hd,tx,pl,mn,pa,sq⟩ (.slice A1 n1 c1) (.slice A2 n2 c2) (.slice A3 n3 c3)).toArray]) Tryz.func121 J kL<|sC<|sM 148 (cPG ⟨hd,tx,pl,mn,pa,sq⟩ (.slice A1 n1 c1) (.slice A2 n2 c2) (.slice A3 n3 c3)).toArray (λg1=>?_) kR (λw=>An J J kZ hlen w)
 refine sP (.bool false) ?_
 have X0:XAt (rdC (Base.of w) [(g1,148,(cPG ⟨hd,tx,pl,mn,pa,sq⟩ (.slice A1 n1 c1) (.slice A2 n2 c2) (.slice A3 n3 c3)).toArray)]) g1 0 (cPG ⟨hd,tx,pl,mn,pa,sq⟩ (.slice A1 n1 c1) (.slice A2 n2 c2) (.slice A3 n3 c3)):=λi u hu=>.inr ⟨_,_,List.mem_singleton.2 J,by rw [Nat.zero_add,List.getElem?_toArray]; exact hu⟩
 have X1:XAt (rdC (Base.of w) [(g1,148,(cPG ⟨hd,tx,pl,mn,pa,sq⟩ (.slice A1 n1 c1) (.slice A2 n2 c2) (.slice A3 n3 c3)).toArray)]) g1 32 ([.slice A1 n1 c1]++([.int .u32 (pl:Int)]++([.int .u32 (mn:Int)]++([.slice A2 n2 c2]++([.slice A3 n3 c3]))))):=X0.right m0
 have X2:XAt (rdC (Base.of w) [(g1,148,(cPG ⟨hd,tx,pl,mn,pa,sq⟩ (.slice A1 n1 c1) (.slice A2 n2 c2) (.slice A3 n3 c3)).toArray)]) g1 33 ([.int .u32 (pl:Int)]++([.int .u32 (mn:Int)]++([.slice A2 n2 c2]++([.slice A3 n3 c3])))):=X1.right (n:=1) rfl
 have X3:XAt (rdC (Base.of w) [(g1,148,(cPG ⟨hd,tx,pl,mn,pa,sq⟩ (.slice A1 n1 c1) (.slice A2 n2 c2) (.slice A3 n3 c3)).toArray)]) g1 34 ([.int .u32 (mn:Int)]++([.slice A2 n2 c2]++([.slice A3 n3 c3]))):=X2.right (n:=1) rfl
 have X4:XAt (rdC (Base.of w) [(g1,148,(cPG ⟨hd,tx,pl,mn,pa,sq⟩ (.slice A1 n1 c1) (.slice A2 n2 c2) (.slice A3 n3 c3)).toArray)]) g1 35 ([.slice A2 n2 c2]++([.slice A3 n3 c3])):=X3.right (n:=1) rfl
 have X5:XAt (rdC (Base.of w) [(g1,148,(cPG ⟨hd,tx,pl,mn,pa,sq⟩ (.slice A1 n1 c1) (.slice A2 n2 c2) (.slice A3 n3 c3)).toArray)]) g1 36 ([.slice A3 n3 c3]):=X4.right (n:=1) rfl
 refine sA ?_
 obtain ⟨b1,hb1⟩:=xE (decide (hd=z32))
 refine sP (pT g1 0)<|sS (.agg (hd.map bv).toArray) (Bd (R:=[(g1,148,(cPG ⟨hd,tx,pl,mn,pa,sq⟩ (.slice A1 n1 c1) (.slice A2 n2 c2) (.slice A3 n3 c3)).toArray)]) (g:=g1) (f:=0) (k:=32) (cs:=hd.map bv) X0.left (λy hy=>hy) m0 J DI)<|sP (.agg (z32.map bv).toArray)<|sS (.bool b1) (Quiet.pure (λw=>by rw [hb1]; exact ES w _ _ _ _ hd z32 h0 J J J J))<|sp J ?_
 cases b1
 case' false =>
  refine sN<|sN<|sN<|sN<|sP (.bool false)<|sp J<|sN<|sN<|sN<|sP (.bool false)<|sp J<|sN<|sN<|sN<|sP (.bool false)<|sp J<|sN<|sN<|sN<|sN<|sP (.bool false)<|sp J<|sN<|sN<|sN<|sN<|sP (.bool false)<|sp J<|sG<|Sy.ret ?_
  rw [hnul, ← hb1]
  exact rV (.bool false) rfl
 obtain ⟨b2,hb2⟩:=xE (decide (n1=0))
 refine sP (pT g1 32)<|sS (.slice A1 n1 c1) (AH (R:=[(g1,148,(cPG ⟨hd,tx,pl,mn,pa,sq⟩ (.slice A1 n1 c1) (.slice A2 n2 c2) (.slice A3 n3 c3)).toArray)]) (g:=g1) (f:=32) X1.one (λy hy=>hy) rfl Ay)<|sP (.int .i64 (n1:Int))<|sS (.bool b2) (qeq J J J hb2)<|sP (.bool b2)<|sp J ?_
 cases b2
 case' false =>
  refine sN<|sN<|sN<|sP (.bool false)<|sp J<|sN<|sN<|sN<|sP (.bool false)<|sp J<|sN<|sN<|sN<|sN<|sP (.bool false)<|sp J<|sN<|sN<|sN<|sN<|sP (.bool false)<|sp J<|sG<|Sy.ret ?_
  rw [hnul, ← hb1, ← hb2]
  exact rV (.bool false) rfl
 obtain ⟨b3,hb3⟩:=xE (decide (pl=0))
 refine sP (pT g1 33)<|sS (.int .u32 (pl:Int)) (AH (R:=[(g1,148,(cPG ⟨hd,tx,pl,mn,pa,sq⟩ (.slice A1 n1 c1) (.slice A2 n2 c2) (.slice A3 n3 c3)).toArray)]) (g:=g1) (f:=33) X2.one (λy hy=>hy) rfl Ff)<|sS (.bool b3) (Quiet.pure (AD .eql _ _ _ .u32 _ _ _ J J J (Ab _ _ _ _ _ (by rw [hb3]; exact decide_eq_decide.2 om))))<|sP (.bool b3)<|sp J ?_
 cases b3
 case' false =>
  refine sN<|sN<|sN<|sP (.bool false)<|sp J<|sN<|sN<|sN<|sN<|sP (.bool false)<|sp J<|sN<|sN<|sN<|sN<|sP (.bool false)<|sp J<|sG<|Sy.ret ?_
  rw [hnul, ← hb1, ← hb2, ← hb3]
  exact rV (.bool false) rfl
 obtain ⟨b4,hb4⟩:=xE (decide (mn=0))
 refine sP (pT g1 34)<|sS (.int .u32 (mn:Int)) (AH (R:=[(g1,148,(cPG ⟨hd,tx,pl,mn,pa,sq⟩ (.slice A1 n1 c1) (.slice A2 n2 c2) (.slice A3 n3 c3)).toArray)]) (g:=g1) (f:=34) X3.one (λy hy=>hy) rfl Ff)<|sS (.bool b4) (Quiet.pure (AD .eql _ _ _ .u32 _ _ _ J J J (Ab _ _ _ _ _ (by rw [hb4]; exact decide_eq_decide.2 om))))<|sP (.bool b4)<|sp J ?_
 cases b4
 case' false =>
  refine sN<|sN<|sN<|sN<|sP (.bool false)<|sp J<|sN<|sN<|sN<|sN<|sP (.bool false)<|sp J<|sG<|Sy.ret ?_
  rw [hnul, ← hb1, ← hb2, ← hb3, ← hb4]
  exact rV (.bool false) rfl
 obtain ⟨b5,hb5⟩:=xE (decide (n2=0))
 refine sP (pT g1 35)<|sS (.slice A2 n2 c2) (AH (R:=[(g1,148,(cPG ⟨hd,tx,pl,mn,pa,sq⟩ (.slice A1 n1 c1) (.slice A2 n2 c2) (.slice A3 n3 c3)).toArray)]) (g:=g1) (f:=35) X4.one (λy hy=>hy) rfl Ck)<|sP (.int .i64 (n2:Int))<|sS (.bool b5) (qeq J J J hb5)<|sP (.bool b5)<|sp J ?_
 cases b5
 case' false =>
  refine sN<|sN<|sN<|sN<|sP (.bool false)<|sp J<|sG<|Sy.ret ?_
  rw [hnul, ← hb1, ← hb2, ← hb3, ← hb4, ← hb5]
  exact rV (.bool false) rfl
 obtain ⟨b6,hb6⟩:=xE (decide (n3=0))
 refine sP (pT g1 36)<|sS (.slice A3 n3 c3) (AH (R:=[(g1,148,(cPG ⟨hd,tx,pl,mn,pa,sq⟩ (.slice A1 n1 c1) (.slice A2 n2 c2) (.slice A3 n3 c3)).toArray)]) (g:=g1) (f:=36) X5.one (λy hy=>hy) rfl Ay)<|sP (.int .i64 (n3:Int))<|sS (.bool b6) (qeq J J J hb6)<|sP (.bool b6)<|sp J<|sG<|Sy.ret ?_
 rw [hnul, ← hb1, ← hb2, ← hb3, ← hb4, ← hb5, ← hb6]
 exact rV (.bool b6) rfl
theorem PR (w0:Base) (gw:Nat) (bad:Bool) (s:Slc) (R:AA) (b:Byt) (x:Byt×Nat) (cs:List Value) (hx:J8 (rdW w0.world) cs x) (hb:BS s b) (hl:b.length+36≤70368744160000) (w:World) (hw:St w0 w (WB gw bad s R)) :
  AL 118 #[ptr gw,.agg cs.toArray] w (AQ w0 (Wd gw R true (Mu x) 36 bad b)):=by
 obtain ⟨id,ix⟩:=x
 obtain ⟨rfl,h1,h2⟩:=hx
 dsimp only at h1 h2
 have e0:(id.map bv).length=32:=by rw [List.length_map,h1]
 have hlen:(id.map bv++[Value.int .u32 (ix:Int)]).length=33:=by rw [List.length_append,e0]; rfl
 refine Sy.enterT (args:=[ptr gw,.agg (id.map bv++[Value.int .u32 (ix:Int)]).toArray]) hw Tryz.func118 J kL<|sC<|sM 142 (id.map bv++[Value.int .u32 (ix:Int)]).toArray (λg3=>?_) kR (λw=>An J J kZ hlen w)
 refine Sy.permS (M:=WB gw bad s (R++[(g3,142,(id.map bv++[Value.int .u32 (ix:Int)]).toArray)])) (List.Perm.of_eq (by simp only [List.append_assoc])) ?_
 have X0:XAt (rdC w0.inn [(g3,142,(id.map bv++[Value.int .u32 (ix:Int)]).toArray)]) g3 0 ((id.map bv++[Value.int .u32 (ix:Int)])):=λi u hu=>.inr ⟨_,_,List.mem_singleton.2 J,by rw [Nat.zero_add,List.getElem?_toArray]; exact hu⟩
 have X1:XAt (rdC w0.inn [(g3,142,(id.map bv++[Value.int .u32 (ix:Int)]).toArray)]) g3 32 [.int .u32 (ix:Int)]:=X0.right e0
 refine sA<|sp J<|sP (pT g3 0)<|sS (.agg (id.map bv).toArray) (Bd (R:=[(g3,142,(id.map bv++[Value.int .u32 (ix:Int)]).toArray)]) (g:=g3) (f:=0) (k:=32) (cs:=id.map bv) X0.left (λy hy=>BA (List.mem_append_right R hy)) e0 J DI)<|Sy.callT (λw hw=>Mx w0.inn gw bad s (R++[(g3,142,(id.map bv++[Value.int .u32 (ix:Int)]).toArray)]) b id h1 hb om w hw) (λu M hM=>?_)
 obtain ⟨s1,bad1,b1,q1,p1,rfl⟩:=hM
 have l1:b1.length≤b.length+32:=q1.len
 refine Sy.nil<|Sy.then_<|Sy.region<|sp J<|sP (pT g3 32)<|sS (.int .u32 (ix:Int)) (AH (R:=[(g3,142,(id.map bv++[Value.int .u32 (ix:Int)]).toArray)]) (g:=g3) (f:=32) X1.one (λy hy=>BA (List.mem_append_right R hy)) J Ff)<|sS (uZ (ix:Int)) (Quiet.pure (λw=>G3 w _ _ _ ix h2 J J))<|Sy.callT (λw hw=>KJ 4 dZ w0.inn gw bad1 s1 (R++[(g3,142,(id.map bv++[Value.int .u32 (ix:Int)]).toArray)]) b1 ix om p1 om w hw) (λu M hM=>?_)
 obtain ⟨s2,bad2,b2,q2,p2,rfl⟩:=hM
 have l2:b2.length≤b1.length+4:=q2.len
 refine Sy.nil ?_
 have q:=q1.then_ q2
 exact Sy.retT0 J (WB gw bad2 s2 R) (λ_ h=>CQ h) (λ_=>⟨s2,bad2,b2,q,p2,rfl⟩)
theorem P3 (w0:Base) (gw:Nat) (bad:Bool) (s:Slc) (R:AA) (b:Byt) (x:MIs) (cs:List Value) (hx:D4 (rdW w0.world) cs x) (hb:BS s b) (hl:b.length+DH x≤70368744160000) (w:World) (hw:St w0 w (WB gw bad s R)) :
  AL 119 #[ptr gw,.agg cs.toArray] w (AQ w0 (Wd gw R (C4 x) (Dq x) (DH x) bad b)):=by
 obtain ⟨z,am,rg,tk,en,sc⟩:=x
 obtain ⟨vr,rfl,d1,h2,h3,h4,h5⟩:=hx
 dsimp only at d1 h2 h3 h4 h5
 unfold DH at hl
 dsimp only at hl
 have m4:(en.map bv).length=32:=by rw [List.length_map,h4]
 have hlen:(cIS ⟨z,am,rg,tk,en,sc⟩ vr).length=50:=by simp only [cIS,cAM,List.length_append,m4,F6,Cb]; rfl
 refine Sy.enterT (args:=[ptr gw,.agg (cIS ⟨z,am,rg,tk,en,sc⟩ vr).toArray]) hw Tryz.func119 J kL<|sC<|sM 145 (cIS ⟨z,am,rg,tk,en,sc⟩ vr).toArray (λg3=>?_) kR (λw=>An J J kZ hlen w)
 refine Sy.permS (M:=WB gw bad s (R++[(g3,145,(cIS ⟨z,am,rg,tk,en,sc⟩ vr).toArray)])) (List.Perm.of_eq (by simp only [List.append_assoc])) ?_
 have X0:XAt (rdC w0.inn [(g3,145,(cIS ⟨z,am,rg,tk,en,sc⟩ vr).toArray)]) g3 0 ((cIS ⟨z,am,rg,tk,en,sc⟩ vr)):=λi u hu=>.inr ⟨_,_,List.mem_singleton.2 J,by rw [Nat.zero_add,List.getElem?_toArray]; exact hu⟩
 have X1:XAt (rdC w0.inn [(g3,145,(cIS ⟨z,am,rg,tk,en,sc⟩ vr).toArray)]) g3 1 (cAM am++([vr]++([uZ (tk:Int)]++(en.map bv++(Cu.fws sc))))):=X0.right (n:=1) rfl
 have X2:XAt (rdC w0.inn [(g3,145,(cIS ⟨z,am,rg,tk,en,sc⟩ vr).toArray)]) g3 12 ([vr]++([uZ (tk:Int)]++(en.map bv++(Cu.fws sc)))):=X1.right (n:=11) rfl
 have X3:XAt (rdC w0.inn [(g3,145,(cIS ⟨z,am,rg,tk,en,sc⟩ vr).toArray)]) g3 13 ([uZ (tk:Int)]++(en.map bv++(Cu.fws sc))):=X2.right (n:=1) rfl
 have X4:XAt (rdC w0.inn [(g3,145,(cIS ⟨z,am,rg,tk,en,sc⟩ vr).toArray)]) g3 14 (en.map bv++(Cu.fws sc)):=X3.right (n:=1) rfl
 have X5:XAt (rdC w0.inn [(g3,145,(cIS ⟨z,am,rg,tk,en,sc⟩ vr).toArray)]) g3 46 (Cu.fws sc):=X4.right m4
 refine sA<|sp J<|sP (pT g3 0)<|sS (.int .i64 z) (AH (R:=[(g3,145,(cIS ⟨z,am,rg,tk,en,sc⟩ vr).toArray)]) (g:=g3) (f:=0) X0.one (λy hy=>BA (List.mem_append_right R hy)) J uy3)<|Sy.callT (λw hw=>FK w0.inn gw bad s (R++[(g3,145,(cIS ⟨z,am,rg,tk,en,sc⟩ vr).toArray)]) b 0 2 z hb om w hw) (λu M hM=>?_)
 obtain ⟨s1,bad1,b1,q1,p1,rfl⟩:=hM
 have l1:b1.length≤b.length+1:=q1.len
 refine sG<|Sy.seq<|sC ?_
 by_cases h0:z=0
 ·subst h0
  obtain ⟨A,n,cp,rfl,k2,k3,k4,k5⟩:=h2
  have hnul:DE ⟨0,am,rg,tk,en,sc⟩=(El am && (decide (n=0) && (decide (tk=0) && (decide (en=z32) && decide (sc=0))))):=by unfold DE; dsimp only; rw [k2]
  refine sP (pT g3 0)<|sS (.int .i64 0) (AH (R:=[(g3,145,(cIS ⟨0,am,rg,tk,en,sc⟩ (.slice A n cp)).toArray)]) (g:=g3) (f:=0) X0.one (λy hy=>BA (List.mem_append_right R hy)) J uy3)<|sP (.bool true)<|sG<|sT<|sC<|sp J ?_
  obtain ⟨b1,hb1⟩:=xE (El am)
  refine sP (pT g3 1)<|sS (.agg (cAM am).toArray) (Bd (R:=[(g3,145,(cIS ⟨0,am,rg,tk,en,sc⟩ (.slice A n cp)).toArray)]) (g:=g3) (f:=1) (k:=11) (cs:=cAM am) X1.left (λy hy=>BA (List.mem_append_right R hy)) J J Jx)<|sP (.agg (cAM zAM).toArray)<|sS (.bool b1) (Quiet.pure (λw=>by rw [hb1]; exact QC w _ _ _ _ am J J J d1.2.1 d1.2.2))<|sp J ?_
  cases b1
  case' false =>
   refine sN<|sN<|sN<|sN<|sP (.bool false)<|sp J<|sN<|sN<|sN<|sP (.bool false)<|sp J<|sN<|sN<|sN<|sN<|sP (.bool false)<|sp J<|sN<|sN<|sN<|sN<|sP (.bool false) ?_
   have hv:DE ⟨0,am,rg,tk,en,sc⟩=false:=by rw [hnul, ← hb1]; first | rfl | (simp only [Bool.true_and,Bool.false_and])
   refine Sy.callT (λw hw=>BF w0.inn gw bad1 false s1 (R++[(g3,145,(cIS ⟨0,am,rg,tk,en,sc⟩ (.slice A n cp)).toArray)]) w hw) (λu M hM=>?_)
   subst hM
   refine sG<|Sy.ret<|Sy.then_ret ?_
   have q:=(q1.then_ (Wrote.must false bad1 b1)).le (k':=DH ⟨0,am,rg,tk,en,sc⟩) (by unfold DH; dsimp only; omega)
   have e:C4 ⟨0,am,rg,tk,en,sc⟩=(okS 0 2 0 && false):=by rw [← hv]; rfl
   exact Sy.retT0 J (WB gw (bad1 || !false) s1 R) (λ_ h=>CQ h) (λ_=>⟨s1,bad1 || !false,b1,by rw [e]; exact q,p1,rfl⟩)
  obtain ⟨b2,hb2⟩:=xE (decide (n=0))
  refine sP (pT g3 12)<|sS (.slice A n cp) (AH (R:=[(g3,145,(cIS ⟨0,am,rg,tk,en,sc⟩ (.slice A n cp)).toArray)]) (g:=g3) (f:=12) X2.one (λy hy=>BA (List.mem_append_right R hy)) J Ay)<|sP (.int .i64 (n:Int))<|sS (.bool b2) (qeq J J J hb2)<|sP (.bool b2)<|sp J ?_
  cases b2
  case' false =>
   refine sN<|sN<|sN<|sP (.bool false)<|sp J<|sN<|sN<|sN<|sN<|sP (.bool false)<|sp J<|sN<|sN<|sN<|sN<|sP (.bool false) ?_
   have hv:DE ⟨0,am,rg,tk,en,sc⟩=false:=by rw [hnul, ← hb1, ← hb2]; first | rfl | (simp only [Bool.true_and,Bool.false_and])
   refine Sy.callT (λw hw=>BF w0.inn gw bad1 false s1 (R++[(g3,145,(cIS ⟨0,am,rg,tk,en,sc⟩ (.slice A n cp)).toArray)]) w hw) (λu M hM=>?_)
   subst hM
   refine sG<|Sy.ret<|Sy.then_ret ?_
   have q:=(q1.then_ (Wrote.must false bad1 b1)).le (k':=DH ⟨0,am,rg,tk,en,sc⟩) (by unfold DH; dsimp only; omega)
   have e:C4 ⟨0,am,rg,tk,en,sc⟩=(okS 0 2 0 && false):=by rw [← hv]; rfl
   exact Sy.retT0 J (WB gw (bad1 || !false) s1 R) (λ_ h=>CQ h) (λ_=>⟨s1,bad1 || !false,b1,by rw [e]; exact q,p1,rfl⟩)
  obtain ⟨b3,hb3⟩:=xE (decide (tk=0))
  refine sP (pT g3 13)<|sS (uZ (tk:Int)) (AH (R:=[(g3,145,(cIS ⟨0,am,rg,tk,en,sc⟩ (.slice A n cp)).toArray)]) (g:=g3) (f:=13) X3.one (λy hy=>BA (List.mem_append_right R hy)) J CF)<|sS (.bool b3) (Quiet.pure (AD .eql _ _ _ .u64 _ _ _ J J J (Ab _ _ _ _ _ (by rw [hb3]; exact decide_eq_decide.2 om))))<|sP (.bool b3)<|sp J ?_
  cases b3
  case' false =>
   refine sN<|sN<|sN<|sN<|sP (.bool false)<|sp J<|sN<|sN<|sN<|sN<|sP (.bool false) ?_
   have hv:DE ⟨0,am,rg,tk,en,sc⟩=false:=by rw [hnul, ← hb1, ← hb2, ← hb3]; first | rfl | (simp only [Bool.true_and,Bool.false_and])
   refine Sy.callT (λw hw=>BF w0.inn gw bad1 false s1 (R++[(g3,145,(cIS ⟨0,am,rg,tk,en,sc⟩ (.slice A n cp)).toArray)]) w hw) (λu M hM=>?_)
   subst hM
   refine sG<|Sy.ret<|Sy.then_ret ?_
   have q:=(q1.then_ (Wrote.must false bad1 b1)).le (k':=DH ⟨0,am,rg,tk,en,sc⟩) (by unfold DH; dsimp only; omega)
   have e:C4 ⟨0,am,rg,tk,en,sc⟩=(okS 0 2 0 && false):=by rw [← hv]; rfl
   exact Sy.retT0 J (WB gw (bad1 || !false) s1 R) (λ_ h=>CQ h) (λ_=>⟨s1,bad1 || !false,b1,by rw [e]; exact q,p1,rfl⟩)
  obtain ⟨b4,hb4⟩:=xE (decide (en=z32))
  refine sP (pT g3 14)<|sS (.agg (en.map bv).toArray) (Bd (R:=[(g3,145,(cIS ⟨0,am,rg,tk,en,sc⟩ (.slice A n cp)).toArray)]) (g:=g3) (f:=14) (k:=32) (cs:=en.map bv) X4.left (λy hy=>BA (List.mem_append_right R hy)) m4 J DI)<|sP (.agg (z32.map bv).toArray)<|sS (.bool b4) (Quiet.pure (λw=>by rw [hb4]; exact ES w _ _ _ _ en z32 h4 J J J J))<|sP (.bool b4)<|sp J ?_
  cases b4
  case' false =>
   refine sN<|sN<|sN<|sN<|sP (.bool false) ?_
   have hv:DE ⟨0,am,rg,tk,en,sc⟩=false:=by rw [hnul, ← hb1, ← hb2, ← hb3, ← hb4]; first | rfl | (simp only [Bool.true_and,Bool.false_and])
   refine Sy.callT (λw hw=>BF w0.inn gw bad1 false s1 (R++[(g3,145,(cIS ⟨0,am,rg,tk,en,sc⟩ (.slice A n cp)).toArray)]) w hw) (λu M hM=>?_)
   subst hM
   refine sG<|Sy.ret<|Sy.then_ret ?_
   have q:=(q1.then_ (Wrote.must false bad1 b1)).le (k':=DH ⟨0,am,rg,tk,en,sc⟩) (by unfold DH; dsimp only; omega)
   have e:C4 ⟨0,am,rg,tk,en,sc⟩=(okS 0 2 0 && false):=by rw [← hv]; rfl
   exact Sy.retT0 J (WB gw (bad1 || !false) s1 R) (λ_ h=>CQ h) (λ_=>⟨s1,bad1 || !false,b1,by rw [e]; exact q,p1,rfl⟩)
  obtain ⟨b5,hb5⟩:=xE (decide (sc=0))
  refine sP (pT g3 46)<|sS (fv sc) (Bd (R:=[(g3,145,(cIS ⟨0,am,rg,tk,en,sc⟩ (.slice A n cp)).toArray)]) (g:=g3) (f:=46) (k:=4) (cs:=Cu.fws sc) X5 (λy hy=>BA (List.mem_append_right R hy)) J J Bh)<|sP (fv 0)<|sS (.bool b5) (Quiet.pure (λw=>by rw [hb5]; exact Kk w _ _ _ _ sc 0 J J J h5 dZ))<|sP (.bool b5) ?_
  have hv:DE ⟨0,am,rg,tk,en,sc⟩=b5:=by rw [hnul, ← hb1, ← hb2, ← hb3, ← hb4, ← hb5]; first | rfl | (simp only [Bool.true_and,Bool.false_and])
  refine Sy.callT (λw hw=>BF w0.inn gw bad1 b5 s1 (R++[(g3,145,(cIS ⟨0,am,rg,tk,en,sc⟩ (.slice A n cp)).toArray)]) w hw) (λu M hM=>?_)
  subst hM
  refine sG<|Sy.ret<|Sy.then_ret ?_
  have q:=(q1.then_ (Wrote.must b5 bad1 b1)).le (k':=DH ⟨0,am,rg,tk,en,sc⟩) (by unfold DH; dsimp only; omega)
  have e:C4 ⟨0,am,rg,tk,en,sc⟩=(okS 0 2 0 && b5):=by rw [← hv]; rfl
  exact Sy.retT0 J (WB gw (bad1 || !b5) s1 R) (λ_ h=>CQ h) (λ_=>⟨s1,bad1 || !b5,b1,by rw [e]; exact q,p1,rfl⟩)
 refine sP (pT g3 0)<|sS (.int .i64 z) (AH (R:=[(g3,145,(cIS ⟨z,am,rg,tk,en,sc⟩ vr).toArray)]) (g:=g3) (f:=0) X0.one (λy hy=>BA (List.mem_append_right R hy)) J uy3)<|sS (.bool false) (Quiet.pure (AD .eql _ _ _ .i64 _ _ _ J J J (Ab _ _ _ _ _ (decide_eq_false h0))))<|sG<|sU<|Sy.skip<|Sy.then_<|sC<|sp J<|sP (pT g3 1)<|sS (.agg (cAM am).toArray) (Bd (R:=[(g3,145,(cIS ⟨z,am,rg,tk,en,sc⟩ vr).toArray)]) (g:=g3) (f:=1) (k:=11) (cs:=cAM am) X1.left (λy hy=>BA (List.mem_append_right R hy)) J J Jx)<|Sy.callT (λw hw=>Gm w0.inn gw bad1 s1 (R++[(g3,145,(cIS ⟨z,am,rg,tk,en,sc⟩ vr).toArray)]) b1 am d1.1 d1.2.1 d1.2.2 p1 om w hw) (λu M hM=>?_)
 obtain ⟨s2,bad2,b2,q2,p2,rfl⟩:=hM
 have l2:b2.length≤b1.length+34:=q2.len
 refine sA<|sp J<|sP (pT g3 12)<|sS vr (AH (R:=[(g3,145,(cIS ⟨z,am,rg,tk,en,sc⟩ vr).toArray)]) (g:=g3) (f:=12) X2.one (λy hy=>BA (List.mem_append_right R hy)) J Ay)<|Sy.callT (λw hw=>Co w0.inn gw bad2 s2 (R++[(g3,145,(cIS ⟨z,am,rg,tk,en,sc⟩ vr).toArray)]) b2 vr rg 6000 dZ p2 h2 om w hw) (λu M hM=>?_)
 obtain ⟨s3,bad3,b3,q3,p3,rfl⟩:=hM
 have l3:b3.length≤b2.length+(9+rg.length):=q3.len
 refine sA<|sp J<|sP (pT g3 13)<|sS (uZ (tk:Int)) (AH (R:=[(g3,145,(cIS ⟨z,am,rg,tk,en,sc⟩ vr).toArray)]) (g:=g3) (f:=13) X3.one (λy hy=>BA (List.mem_append_right R hy)) J CF)<|Sy.callT (λw hw=>KJ 8 dZ w0.inn gw bad3 s3 (R++[(g3,145,(cIS ⟨z,am,rg,tk,en,sc⟩ vr).toArray)]) b3 tk h3 p3 om w hw) (λu M hM=>?_)
 obtain ⟨s4,bad4,b4,q4,p4,rfl⟩:=hM
 have l4:b4.length≤b3.length+8:=q4.len
 refine sA<|sp J<|sP (pT g3 14)<|sS (.agg (en.map bv).toArray) (Bd (R:=[(g3,145,(cIS ⟨z,am,rg,tk,en,sc⟩ vr).toArray)]) (g:=g3) (f:=14) (k:=32) (cs:=en.map bv) X4.left (λy hy=>BA (List.mem_append_right R hy)) m4 J DI)<|Sy.callT (λw hw=>Mx w0.inn gw bad4 s4 (R++[(g3,145,(cIS ⟨z,am,rg,tk,en,sc⟩ vr).toArray)]) b4 en h4 p4 om w hw) (λu M hM=>?_)
 obtain ⟨s5,bad5,b5,q5,p5,rfl⟩:=hM
 have l5:b5.length≤b4.length+32:=q5.len
 refine sA ?_
 obtain ⟨ok,hok⟩:=xE (JV sc)
 refine sp J<|sP (pT g3 46)<|sS (fv sc) (Bd (R:=[(g3,145,(cIS ⟨z,am,rg,tk,en,sc⟩ vr).toArray)]) (g:=g3) (f:=46) (k:=4) (cs:=Cu.fws sc) X5 (λy hy=>BA (List.mem_append_right R hy)) J J Bh)<|sS (.bool ok) (qg (λw _=>by rw [hok]; exact OU w sc h5))<|Sy.callT (λw hw=>BF w0.inn gw bad5 ok s5 (R++[(g3,145,(cIS ⟨z,am,rg,tk,en,sc⟩ vr).toArray)]) w hw) (λu M hM=>?_)
 subst hM
 refine Sy.nil<|Sy.then_<|Sy.region<|sp J<|sP (pT g3 46)<|sS (fv sc) (Bd (R:=[(g3,145,(cIS ⟨z,am,rg,tk,en,sc⟩ vr).toArray)]) (g:=g3) (f:=46) (k:=4) (cs:=Cu.fws sc) X5 (λy hy=>BA (List.mem_append_right R hy)) J J Bh)<|Sy.callN kR 176 #[fv sc] kF _ (λw' _=>Cu.bscN w' sc h5) (λu M hM=>?_)
 obtain ⟨g,sq,cap,rfl,⟨hc1,hc2⟩,rfl⟩:=hM
 have hB:BytR (rdC w0.inn ((R++[(g3,145,(cIS ⟨z,am,rg,tk,en,sc⟩ vr).toArray)])++[(g,5,((Dd sc).map bv++sq).toArray)])) (.slice (pA g) 32 cap) (Dd sc):=⟨_,_,_,rfl,AN _,hc1,by simp only [maxLen]; omega,λ_=>⟨g,0,rfl,λj y hj=>.inr ⟨5,_,List.mem_append_right _ (List.mem_singleton.2 J),by rw [Nat.zero_add,List.getElem?_toArray,List.getElem?_append_left (by rw [List.length_map]; exact (List.getElem?_eq_some_iff.1 hj).1),List.getElem?_map,hj]; rfl⟩⟩⟩
 refine Sy.permS (M:=WB gw (bad5 || !ok) s5 ((R++[(g3,145,(cIS ⟨z,am,rg,tk,en,sc⟩ vr).toArray)])++[(g,5,((Dd sc).map bv++sq).toArray)])) (List.Perm.of_eq (by simp only [List.append_assoc]; rfl))<|Sy.callT (λw hw=>CH w0.inn gw (bad5 || !ok) s5 ((R++[(g3,145,(cIS ⟨z,am,rg,tk,en,sc⟩ vr).toArray)])++[(g,5,((Dd sc).map bv++sq).toArray)]) b5 _ (Dd sc) p5 hB (by rw [show (Dd sc).length=32 from AN _]; omega) w hw) (λv M hM=>?_)
 obtain ⟨s6,p6,rfl⟩:=hM
 refine Sy.nil ?_
 have q6:=(Wrote.must ok bad5 b5).then_ (Wrote.raw (Dd sc) (bad5 || !ok) b5 (k:=32) (Nat.le_of_eq (AN _)))
 have q:=q1.then_ (q2.then_ (q3.then_ (q4.then_ (q5.then_ q6))))
 have fine:Wrote (C4 ⟨z,am,rg,tk,en,sc⟩) (Dq ⟨z,am,rg,tk,en,sc⟩) (DH ⟨z,am,rg,tk,en,sc⟩) bad b (bad5 || !ok) (b5++Dd sc):=by
  have e3:Dq ⟨z,am,rg,tk,en,sc⟩=[CZ z]++IG ⟨z,am,rg,tk,en,sc⟩:=by unfold Dq; rw [if_neg h0]
  rw [Bool.true_and,Bool.true_and,Bool.and_true,hok,List.nil_append,Nat.zero_add] at q
  by_cases hk:z=1∨z=2
  ·have e1:okS 0 2 z=true:=by rcases hk with rfl|rfl <;> rfl
   have e2:C4 ⟨z,am,rg,tk,en,sc⟩=Iq ⟨z,am,rg,tk,en,sc⟩:=by unfold C4; rw [if_neg h0,if_pos hk]
   rw [e1,Bool.true_and] at q
   rw [e2,e3,hok]
   exact q
  ·have e1:okS 0 2 z=false:=by
    cases hb:okS 0 2 z with
    | false=>rfl
    | true =>
     unfold okS at hb
     rw [Bool.and_eq_true,decide_eq_true_eq,decide_eq_true_eq] at hb
     exact (hk om).elim
   have e2:C4 ⟨z,am,rg,tk,en,sc⟩=false:=by unfold C4; rw [if_neg h0,if_neg hk]
   rw [e1,Bool.false_and] at q
   rw [e2,e3,hok]
   exact q
 exact Sy.retT0 J (WB gw (bad5 || !ok) s6 R) (λ_ h=>CQ (by simpa only [List.append_assoc] using h)) (λ_=>⟨s6,bad5 || !ok,_,fine,p6,rfl⟩)
theorem PM (w0:Base) (gw:Nat) (bad:Bool) (s:Slc) (R:AA) (b:Byt) (x:MPg) (cs:List Value) (hx:D3 (rdW w0.world) cs x) (hlo:x.path.length≤1000000000000) (hb:BS s b) (hl:b.length+EZ x≤70368744160000) (w:World) (hw:St w0 w (WB gw bad s R)) :
  AL 120 #[ptr gw,.agg cs.toArray] w (AQ w0 (Wd gw R (Hr x) (F9 x) (EZ x) bad b)):=by
 obtain ⟨hd,tx,pl,mn,pa,sq⟩:=x
 obtain ⟨vt,vp,vs,rfl,h1,h2,h3,h4,⟨A,n,cp,rfl,n1,n2,n3,n4⟩,h6⟩:=hx
 dsimp only at h1 h2 h3 h4 h6 n1 n4 hlo
 unfold EZ at hl
 dsimp only at hl
 have m0:(hd.map bv).length=32:=by rw [List.length_map,h1]
 have hlen:(cPG ⟨hd,tx,pl,mn,pa,sq⟩ vt (.slice A n cp) vs).length=37:=by simp only [cPG,List.length_append,m0]; rfl
 refine Sy.enterT (args:=[ptr gw,.agg (cPG ⟨hd,tx,pl,mn,pa,sq⟩ vt (.slice A n cp) vs).toArray]) hw Tryz.func120 J kL<|sC<|sM 148 (cPG ⟨hd,tx,pl,mn,pa,sq⟩ vt (.slice A n cp) vs).toArray (λg3=>?_) kR (λw=>An J J kZ hlen w)
 refine Sy.permS (M:=WB gw bad s (R++[(g3,148,(cPG ⟨hd,tx,pl,mn,pa,sq⟩ vt (.slice A n cp) vs).toArray)])) (List.Perm.of_eq (by simp only [List.append_assoc])) ?_
 have X0:XAt (rdC w0.inn [(g3,148,(cPG ⟨hd,tx,pl,mn,pa,sq⟩ vt (.slice A n cp) vs).toArray)]) g3 0 ((cPG ⟨hd,tx,pl,mn,pa,sq⟩ vt (.slice A n cp) vs)):=λi u hu=>.inr ⟨_,_,List.mem_singleton.2 J,by rw [Nat.zero_add,List.getElem?_toArray]; exact hu⟩
 have X1:XAt (rdC w0.inn [(g3,148,(cPG ⟨hd,tx,pl,mn,pa,sq⟩ vt (.slice A n cp) vs).toArray)]) g3 32 ([vt]++([.int .u32 (pl:Int)]++([.int .u32 (mn:Int)]++([.slice A n cp]++([vs]))))):=X0.right m0
 have X2:XAt (rdC w0.inn [(g3,148,(cPG ⟨hd,tx,pl,mn,pa,sq⟩ vt (.slice A n cp) vs).toArray)]) g3 33 ([.int .u32 (pl:Int)]++([.int .u32 (mn:Int)]++([.slice A n cp]++([vs])))):=X1.right (n:=1) rfl
 have X3:XAt (rdC w0.inn [(g3,148,(cPG ⟨hd,tx,pl,mn,pa,sq⟩ vt (.slice A n cp) vs).toArray)]) g3 34 ([.int .u32 (mn:Int)]++([.slice A n cp]++([vs]))):=X2.right (n:=1) rfl
 have X4:XAt (rdC w0.inn [(g3,148,(cPG ⟨hd,tx,pl,mn,pa,sq⟩ vt (.slice A n cp) vs).toArray)]) g3 35 ([.slice A n cp]++([vs])):=X3.right (n:=1) rfl
 have X5:XAt (rdC w0.inn [(g3,148,(cPG ⟨hd,tx,pl,mn,pa,sq⟩ vt (.slice A n cp) vs).toArray)]) g3 36 ([vs]):=X4.right (n:=1) rfl
 refine sA<|sp J<|sP (pT g3 0)<|sS (.agg (hd.map bv).toArray) (Bd (R:=[(g3,148,(cPG ⟨hd,tx,pl,mn,pa,sq⟩ vt (.slice A n cp) vs).toArray)]) (g:=g3) (f:=0) (k:=32) (cs:=hd.map bv) X0.left (λy hy=>BA (List.mem_append_right R hy)) m0 J DI)<|Sy.callT (λw hw=>Mx w0.inn gw bad s (R++[(g3,148,(cPG ⟨hd,tx,pl,mn,pa,sq⟩ vt (.slice A n cp) vs).toArray)]) b hd h1 hb om w hw) (λu M hM=>?_)
 obtain ⟨s1,bad1,b1,q1,p1,rfl⟩:=hM
 have l1:b1.length≤b.length+32:=q1.len
 refine sA<|sp J<|sP (pT g3 32)<|sS vt (AH (R:=[(g3,148,(cPG ⟨hd,tx,pl,mn,pa,sq⟩ vt (.slice A n cp) vs).toArray)]) (g:=g3) (f:=32) X1.one (λy hy=>BA (List.mem_append_right R hy)) J Ay)<|Sy.callT (λw hw=>Co w0.inn gw bad1 s1 (R++[(g3,148,(cPG ⟨hd,tx,pl,mn,pa,sq⟩ vt (.slice A n cp) vs).toArray)]) b1 vt tx 1024 dZ p1 h2 om w hw) (λu M hM=>?_)
 obtain ⟨s2,bad2,b2,q2,p2,rfl⟩:=hM
 have l2:b2.length≤b1.length+(9+tx.length):=q2.len
 refine sA<|sp J<|sP (pT g3 33)<|sS (.int .u32 (pl:Int)) (AH (R:=[(g3,148,(cPG ⟨hd,tx,pl,mn,pa,sq⟩ vt (.slice A n cp) vs).toArray)]) (g:=g3) (f:=33) X2.one (λy hy=>BA (List.mem_append_right R hy)) J Ff)<|sS (uZ (pl:Int)) (Quiet.pure (λw=>G3 w _ _ _ pl h3 J J))<|Sy.callT (λw hw=>KJ 4 dZ w0.inn gw bad2 s2 (R++[(g3,148,(cPG ⟨hd,tx,pl,mn,pa,sq⟩ vt (.slice A n cp) vs).toArray)]) b2 pl om p2 om w hw) (λu M hM=>?_)
 obtain ⟨s3,bad3,b3,q3,p3,rfl⟩:=hM
 have l3:b3.length≤b2.length+4:=q3.len
 refine sA<|sp J<|sP (pT g3 34)<|sS (.int .u32 (mn:Int)) (AH (R:=[(g3,148,(cPG ⟨hd,tx,pl,mn,pa,sq⟩ vt (.slice A n cp) vs).toArray)]) (g:=g3) (f:=34) X3.one (λy hy=>BA (List.mem_append_right R hy)) J Ff)<|sS (uZ (mn:Int)) (Quiet.pure (λw=>G3 w _ _ _ mn h4 J J))<|Sy.callT (λw hw=>KJ 4 dZ w0.inn gw bad3 s3 (R++[(g3,148,(cPG ⟨hd,tx,pl,mn,pa,sq⟩ vt (.slice A n cp) vs).toArray)]) b3 mn om p3 om w hw) (λu M hM=>?_)
 obtain ⟨s4,bad4,b4,q4,p4,rfl⟩:=hM
 have l4:b4.length≤b3.length+4:=q4.len
 refine sA<|sp J<|sP (pT g3 35)<|sS (.slice A n cp) (AH (R:=[(g3,148,(cPG ⟨hd,tx,pl,mn,pa,sq⟩ vt (.slice A n cp) vs).toArray)]) (g:=g3) (f:=35) X4.one (λy hy=>BA (List.mem_append_right R hy)) J Ck)<|sP (.int .i64 (n:Int))<|Sy.callT (λw hw=>Ez w0.inn gw bad4 s4 (R++[(g3,148,(cPG ⟨hd,tx,pl,mn,pa,sq⟩ vt (.slice A n cp) vs).toArray)]) b4 n 32 om dZ p4 om w hw) (λu M hM=>?_)
 obtain ⟨s5,bad5,b5,q5,p5,rfl⟩:=hM
 have l5:b5.length≤b4.length+9:=q5.len
 refine sG<|Sy.seq<|sC<|sP (.int .i64 0)<|sG<|Sy.block ?_
 have hsum6:∀ i,((pa.take i).map (λ_=>32)).sum≤(pa.map (λ_=>32)).sum:=λi=>by
  have e:=congrArg (λz=>(z.map (λ_=>32)).sum) (List.take_append_drop i pa)
  simp only [List.map_append,List.sum_append] at e
  omega
 refine Sy.loopT (Y:=Slc×Bool×Byt) n (λi _=>[(0,ptr gw),(3,ptr g3),(4,.int .i64 (i:Int))]) (λ_ y=>WB gw y.2.1 y.1 (R++[(g3,148,(cPG ⟨hd,tx,pl,mn,pa,sq⟩ vt (.slice A n cp) vs).toArray)])) (λi y=>Wrote ((pa.take i).all (λ_=>true)) ((pa.take i).flatMap (λd=>d)) (((pa.take i).map (λ_=>32)).sum) bad5 b5 y.2.1 y.2.2∧BS y.1 y.2.2) (s5,bad5,b5) ⟨by
  have e:=Wrote.raw [] bad5 b5 (k:=0) (Nat.le_refl 0)
  rw [List.append_nil] at e
  exact e,p5⟩ ac3 (λ_ h=>h) (λi y hi hy=>?_)
 obtain ⟨s6,bad6,b6⟩:=y
 obtain ⟨q6,p6⟩:=hy
 dsimp only at q6 p6 ⊢
 refine Sy.seq<|sC ?_
 obtain ⟨t9,ht9⟩:=xE (decide (i<n))
 refine sp J<|sP (pT g3 35)<|sS (.slice A n cp) (AH (R:=[(g3,148,(cPG ⟨hd,tx,pl,mn,pa,sq⟩ vt (.slice A n cp) vs).toArray)]) (g:=g3) (f:=35) X4.one (λy hy=>BA (List.mem_append_right R hy)) J Ck)<|sP (.int .i64 (n:Int))<|sS (.bool t9) (qls J J J ht9)<|sG ?_
 cases t9
 case' false =>
  have z3:=dN ht9
  obtain rfl:n=i:=om
  rw [List.take_of_length_le om] at q6
  have l6:b6.length≤b5.length+(pa.map (λ_=>32)).sum:=q6.len
  refine sU<|Sy.exit<|Sy.then_exit<|Sy.then_exit<|Sy.in_exit<|Sy.then_<|Sy.region<|sp J<|sP (pT g3 36)<|sS vs (AH (R:=[(g3,148,(cPG ⟨hd,tx,pl,mn,pa,sq⟩ vt (.slice A n cp) vs).toArray)]) (g:=g3) (f:=36) X5.one (λy hy=>BA (List.mem_append_right R hy)) J Ay)<|Sy.callT (λw hw=>Co w0.inn gw bad6 s6 (R++[(g3,148,(cPG ⟨hd,tx,pl,mn,pa,sq⟩ vt (.slice A n cp) vs).toArray)]) b6 vs sq 256 dZ p6 h6 om w hw) (λu M hM=>?_)
  obtain ⟨s7,bad7,b7,q7,p7,rfl⟩:=hM
  have l7:b7.length≤b6.length+(9+sq.length):=q7.len
  refine Sy.nil ?_
  have q:=q1.then_ (q2.then_ (q3.then_ (q4.then_ ((q5.then_ q6).then_ q7))))
  simp only [Bool.true_and,Bool.and_true,Eu] at q
  rw [← n1] at q
  exact Sy.retT0 J (WB gw bad7 s7 R) (λ_ h=>CQ h) (λ_=>⟨s7,bad7,b7,q,p7,rfl⟩)
 have z3:=dY ht9
 obtain ⟨x,hx⟩:∃ x,pa[i]? = some x:=⟨_,List.getElem?_eq_getElem om⟩
 obtain ⟨g,o,hA,hq⟩:=n4 (by intro e; rw [e] at hx; cases hx)
 obtain ⟨cx,y1,y2,y3,y4⟩:=hq i x hx
 obtain ⟨rfl,_⟩:=id y3
 have d1:XAt (rdC w0.inn []) g (o+i*32) _:=λj u hu=>.inl (y4 j u hu)
 have htk:pa.take (i+1)=pa.take i++[x]:=by rw [List.take_add_one,hx]; rfl
 have hsi:=hsum6 (i+1)
 rw [htk] at hsi
 simp only [List.map_append,List.sum_append,List.map_cons,List.map_nil,List.sum_cons,List.sum_nil] at hsi
 have hyl:=q6.len
 refine sT<|Sy.skip<|Sy.then_<|Sy.seq<|Sy.block<|Sy.region<|sp J<|sP (pT g3 35)<|sS (.slice A n cp) (AH (R:=[(g3,148,(cPG ⟨hd,tx,pl,mn,pa,sq⟩ vt (.slice A n cp) vs).toArray)]) (g:=g3) (f:=35) X4.one (λy hy=>BA (List.mem_append_right R hy)) J Ck)<|sp J<|sS (.pointer (some ⟨g,o+i*32,none⟩)) (Quiet.pure (Bl 146 _ _ _ A g o n cp i 32 .i64 hA J J J Ck kF z3))<|sS (.agg (x.map bv).toArray) (Bd (R:=[]) d1 (λy hy=>by cases hy) y1 J DI)<|Sy.callT (λw hw=>Mx w0.inn gw bad6 s6 (R++[(g3,148,(cPG ⟨hd,tx,pl,mn,pa,sq⟩ vt (.slice A n cp) vs).toArray)]) b6 x y3.2 p6 om w hw) (λv M hM=>?_)
 obtain ⟨s9,bad9,b9,q9,p9,rfl⟩:=hM
 refine Sy.nil<|Sy.in_<|Sy.then_<|Sy.region<|sp J<|sS (iZ (i+1)) (qad J J J)<|sp J<|Sy.nil ?_
 have hW:=q6.then_ q9
 have hW':Wrote ((pa.take (i+1)).all (λ_=>true)) ((pa.take (i+1)).flatMap (λd=>d)) (((pa.take (i+1)).map (λ_=>32)).sum) bad5 b5 bad9 b9:=by
  rw [htk]
  simp only [List.all_append,List.flatMap_append,List.map_append,List.sum_append,List.all_cons,List.all_nil,List.flatMap_cons,List.flatMap_nil,List.map_cons,List.map_nil,List.sum_cons,List.sum_nil,Bool.and_true,List.append_nil,Nat.add_zero]
  first | exact hW | simpa only [Bool.and_true] using hW
 exact Sy.againT (s9,bad9,b9) z3 ⟨hW',p9⟩ ac3 (λw h=>h)
theorem Sj {P:Program} {w0:Base} {n:Nat} {Q:Exit→Act→World→Prop} {F:AK} {L:AA} {c:Code} {T:Type} (FF:T→AK) (LL:T→AA) (H:T→Prop) (h:∀ x,H x→X w0 n Q (FF x) (LL x) .normal) (k:(∀ x,H x→X w0 n Q (FF x) (LL x) .normal)→wpC P w0 n Q F L c):wpC P w0 n Q F L c:=k h
theorem Ml {w0:Base} {n:Nat} {Q:Exit→Act→World→Prop} {F:AK} {L:AA} {T:Type} {FF:T→AK} {LL:T→AA} {H:T→Prop} (h:∀ x,H x→X w0 n Q (FF x) (LL x) .normal) (x:T) (hx:H x) (hF:∀ p∈FF x,F.lookup p.1=some p.2) (hL:∀ w,St w0 w L→St w0 w (LL x)):X w0 n Q F L .normal:=λa w ha hw=>h x hx a w (ha.all hF) (hL w hw)
theorem I9 {α:Type} {wt:α→Nat} (h:∀ x,1≤wt x) (l:List α):l.length≤(l.map wt).sum:=by
 induction l with
 | nil=>exact Nat.le_refl 0
 | cons x l ih=>have q:=h x; rw [List.length_cons,List.map_cons,List.sum_cons]; omega
def cIN (z:Int) (pt:Byt) (ix:Nat) (ci cg:List Value) (vw:Value):List Value:=[.int .i64 z]++((pt.map bv++[.int .u32 (ix:Int)])++(ci++(cg++[vw])))
def cTX (af:Nat) (vi vo:Value):List Value:=[.int .u64 (af:Int)]++([vi]++[vo])
theorem RH (p:MPg) {n:Nat} (h:EZ p≤n):p.path.length≤n:=by
 have q:=I9 (wt:=λ_:Byt=>32) (λ_=>dZ) p.path
 unfold EZ at h
 omega
theorem Ry (w0:Base) (gw:Nat) (bad:Bool) (s:Slc) (R:AA) (b:Byt) (x:MIn) (cs:List Value) (hx:CT (rdW w0.world) cs x) (hb:BS s b) (hl:b.length+Dg x≤1000000000000) (w:World) (hw:St w0 w (WB gw bad s R)) :
  AL 65 #[ptr gw,.agg cs.toArray] w (AQ w0 (Wd gw R (E7 x) (Dr x) (Dg x) bad b)):=by
 obtain ⟨z,pt,ix,iss,pg,wi⟩:=x
 obtain ⟨ci,cg,vw,hcs,h1,h2,h3,h4,⟨A,n,cp,rfl,n1,n2,n3,n4⟩⟩:=hx
 obtain rfl:cs=cIN z pt ix ci cg (.slice A n cp):=hcs
 dsimp only at h1 h2 h3 h4 n1 n4
 unfold Dg at hl
 dsimp only at hl
 have m1:(pt.map bv++[Value.int .u32 (ix:Int)]).length=33:=by rw [List.length_append,List.length_map,h1]; rfl
 have m3:=Mk h3
 have m4:=Pw h4
 have hlo:=RH pg (n:=1000000000000) om
 have hwi:=I9 (wt:=wtT) (λx=>by unfold wtT; omega) wi
 have hlen:(cIN z pt ix ci cg (.slice A n cp)).length=122:=by simp only [cIN,List.length_append,List.length_map,h1,m3,m4]; rfl
 refine Sy.enterT (args:=[ptr gw,.agg (cIN z pt ix ci cg (.slice A n cp)).toArray]) hw Tryz.func65 J kL<|sC<|sM 151 (cIN z pt ix ci cg (.slice A n cp)).toArray (λg3=>?_) kR (λw=>An J J kZ hlen w)
 refine Sy.permS (M:=WB gw bad s (R++[(g3,151,(cIN z pt ix ci cg (.slice A n cp)).toArray)])) (List.Perm.of_eq (by simp only [List.append_assoc])) ?_
 have X0:XAt (rdC w0.inn [(g3,151,(cIN z pt ix ci cg (.slice A n cp)).toArray)]) g3 0 ((cIN z pt ix ci cg (.slice A n cp))):=λi u hu=>.inr ⟨_,_,List.mem_singleton.2 J,by rw [Nat.zero_add,List.getElem?_toArray]; exact hu⟩
 have X1:XAt (rdC w0.inn [(g3,151,(cIN z pt ix ci cg (.slice A n cp)).toArray)]) g3 1 ((pt.map bv++[.int .u32 (ix:Int)])++(ci++(cg++([.slice A n cp])))):=X0.right (n:=1) rfl
 have X2:XAt (rdC w0.inn [(g3,151,(cIN z pt ix ci cg (.slice A n cp)).toArray)]) g3 34 (ci++(cg++([.slice A n cp]))):=X1.right m1
 have X3:XAt (rdC w0.inn [(g3,151,(cIN z pt ix ci cg (.slice A n cp)).toArray)]) g3 84 (cg++([.slice A n cp])):=X2.right m3
 have X4:XAt (rdC w0.inn [(g3,151,(cIN z pt ix ci cg (.slice A n cp)).toArray)]) g3 121 ([.slice A n cp]):=X3.right m4
 refine sA<|sp J<|sP (pT g3 0)<|sS (.int .i64 z) (AH (R:=[(g3,151,(cIN z pt ix ci cg (.slice A n cp)).toArray)]) (g:=g3) (f:=0) X0.one (λy hy=>BA (List.mem_append_right R hy)) J uy3)<|Sy.callT (λw hw=>FK w0.inn gw bad s (R++[(g3,151,(cIN z pt ix ci cg (.slice A n cp)).toArray)]) b 1 2 z hb om w hw) (λu M hM=>?_)
 obtain ⟨s1,bad1,b1,q1,p1,rfl⟩:=hM
 have l1:b1.length≤b.length+1:=q1.len
 refine sA<|sp J<|sP (pT g3 1)<|sS (.agg (pt.map bv++[Value.int .u32 (ix:Int)]).toArray) (Bd (R:=[(g3,151,(cIN z pt ix ci cg (.slice A n cp)).toArray)]) (g:=g3) (f:=1) (k:=33) (cs:=pt.map bv++[Value.int .u32 (ix:Int)]) X1.left (λy hy=>BA (List.mem_append_right R hy)) m1 J SX)<|Sy.callT (λw hw=>PR w0.inn gw bad1 s1 (R++[(g3,151,(cIN z pt ix ci cg (.slice A n cp)).toArray)]) b1 (pt,ix) _ ⟨rfl,h1,h2⟩ p1 om w hw) (λu M hM=>?_)
 obtain ⟨s2,bad2,b2,q2,p2,rfl⟩:=hM
 have l2:b2.length≤b1.length+36:=q2.len
 refine sA<|sp J<|sP (pT g3 34)<|sS (.agg ci.toArray) (Bd (R:=[(g3,151,(cIN z pt ix ci cg (.slice A n cp)).toArray)]) (g:=g3) (f:=34) (k:=50) (cs:=ci) X2.left (λy hy=>BA (List.mem_append_right R hy)) m3 J E9)<|Sy.callT (λw hw=>P3 w0.inn gw bad2 s2 (R++[(g3,151,(cIN z pt ix ci cg (.slice A n cp)).toArray)]) b2 iss ci h3 p2 om w hw) (λu M hM=>?_)
 obtain ⟨s3,bad3,b3,q3,p3,rfl⟩:=hM
 have l3:b3.length≤b2.length+DH iss:=q3.len
 refine sG<|Sy.seq<|Sj (T:=Slc×Bool×Byt) (λ_=>[(0,ptr gw),(3,ptr g3)]) (λy=>WB gw y.2.1 y.1 (R++[(g3,151,(cIN z pt ix ci cg (.slice A n cp)).toArray)])) (λy=>Wrote (if z=2 then Hr pg else DL pg) (if z=2 then F9 pg else []) (EZ pg) bad3 b3 y.2.1 y.2.2∧BS y.1 y.2.2) (λy hy=>?_) (λK=>?_)
 case refine_2 =>
  refine sC ?_
  by_cases hk:z=2
  ·subst hk
   refine sP (pT g3 0)<|sS (.int .i64 2) (AH (R:=[(g3,151,(cIN 2 pt ix ci cg (.slice A n cp)).toArray)]) (g:=g3) (f:=0) X0.one (λy hy=>BA (List.mem_append_right R hy)) J uy3)<|sP (.bool true)<|sG<|sT<|Sy.region<|sp J<|sP (pT g3 84)<|sS (.agg cg.toArray) (Bd (R:=[(g3,151,(cIN 2 pt ix ci cg (.slice A n cp)).toArray)]) (g:=g3) (f:=84) (k:=37) (cs:=cg) X3.left (λy hy=>BA (List.mem_append_right R hy)) m4 J HH)<|Sy.callT (λw hw=>PM w0.inn gw bad3 s3 (R++[(g3,151,(cIN 2 pt ix ci cg (.slice A n cp)).toArray)]) b3 pg cg h4 hlo p3 om w hw) (λu M hM=>?_)
   obtain ⟨s4,bad4,b4,q4,p4,rfl⟩:=hM
   have l4:b4.length≤b3.length+EZ pg:=q4.len
   refine Sy.nil ?_
   exact Ml K (s4,bad4,b4) ⟨q4,p4⟩ ac2 (λ_ h=>h)
  obtain ⟨vt,vp,vs,rfl,e1,⟨A1,n1_,c1,rfl,g1_,_⟩,e3,e4,⟨A2,n2_,c2,rfl,g2_,_⟩,⟨A3,n3_,c3,rfl,g3_,_⟩⟩:=h4
  obtain ⟨ok,hok⟩:=xE (DL pg)
  refine sP (pT g3 0)<|sS (.int .i64 z) (AH (R:=[(g3,151,(cIN z pt ix ci (cPG pg (.slice A1 n1_ c1) (.slice A2 n2_ c2) (.slice A3 n3_ c3)) (.slice A n cp)).toArray)]) (g:=g3) (f:=0) X0.one (λy hy=>BA (List.mem_append_right R hy)) J uy3)<|sS (.bool false) (Quiet.pure (AD .eql _ _ _ .i64 _ _ _ J J J (Ab _ _ _ _ _ (decide_eq_false hk))))<|sG<|sU<|Sy.region<|sp J<|sP (pT g3 84)<|sS (.agg (cPG pg (.slice A1 n1_ c1) (.slice A2 n2_ c2) (.slice A3 n3_ c3)).toArray) (Bd (R:=[(g3,151,(cIN z pt ix ci (cPG pg (.slice A1 n1_ c1) (.slice A2 n2_ c2) (.slice A3 n3_ c3)) (.slice A n cp)).toArray)]) (g:=g3) (f:=84) (k:=37) (cs:=cPG pg (.slice A1 n1_ c1) (.slice A2 n2_ c2) (.slice A3 n3_ c3)) X3.left (λy hy=>BA (List.mem_append_right R hy)) m4 J HH)<|sS (.bool ok) (qg (λw _=>by rw [hok]; exact Pc w pg A1 A2 A3 n1_ c1 n2_ c2 n3_ c3 g1_ g2_ g3_ e1))<|Sy.callT (λw hw=>BF w0.inn gw bad3 ok s3 (R++[(g3,151,(cIN z pt ix ci (cPG pg (.slice A1 n1_ c1) (.slice A2 n2_ c2) (.slice A3 n3_ c3)) (.slice A n cp)).toArray)]) w hw) (λu M hM=>?_)
  subst hM
  refine Sy.nil ?_
  exact Ml K (s3,bad3 || !ok,b3) ⟨by rw [if_neg hk,if_neg hk,hok]; exact (Wrote.must _ bad3 b3).le (Nat.zero_le _),p3⟩ ac2 (λ_ h=>h)
 obtain ⟨s4,bad4,b4⟩:=y
 obtain ⟨q4,p4⟩:=hy
 dsimp only at q4 p4 ⊢
 have l4:b4.length≤b3.length+EZ pg:=q4.len
 refine Sy.then_<|sC<|sp J<|sP (pT g3 121)<|sS (.slice A n cp) (AH (R:=[(g3,151,(cIN z pt ix ci cg (.slice A n cp)).toArray)]) (g:=g3) (f:=121) X4.one (λy hy=>BA (List.mem_append_right R hy)) J DX)<|sP (.int .i64 (n:Int))<|Sy.callT (λw hw=>Ez w0.inn gw bad4 s4 (R++[(g3,151,(cIN z pt ix ci cg (.slice A n cp)).toArray)]) b4 n 16 om dZ p4 om w hw) (λu M hM=>?_)
 obtain ⟨s5,bad5,b5,q5,p5,rfl⟩:=hM
 have l5:b5.length≤b4.length+9:=q5.len
 refine sA<|sP (.int .i64 0)<|sG<|Sy.block ?_
 have hsum6:∀ i,((wi.take i).map wtT).sum≤(wi.map wtT).sum:=λi=>by
  have e:=congrArg (λz=>(z.map wtT).sum) (List.take_append_drop i wi)
  simp only [List.map_append,List.sum_append] at e
  omega
 refine Sy.loopT (Y:=Slc×Bool×Byt) n (λi _=>[(0,ptr gw),(3,ptr g3),(4,.int .i64 (i:Int))]) (λ_ y=>WB gw y.2.1 y.1 (R++[(g3,151,(cIN z pt ix ci cg (.slice A n cp)).toArray)])) (λi y=>Wrote ((wi.take i).all Hs) ((wi.take i).flatMap Er) (((wi.take i).map wtT).sum) bad5 b5 y.2.1 y.2.2∧BS y.1 y.2.2) (s5,bad5,b5) ⟨by
  have e:=Wrote.raw [] bad5 b5 (k:=0) (Nat.le_refl 0)
  rw [List.append_nil] at e
  exact e,p5⟩ ac3 (λ_ h=>h) (λi y hi hy=>?_)
 obtain ⟨s6,bad6,b6⟩:=y
 obtain ⟨q6,p6⟩:=hy
 dsimp only at q6 p6 ⊢
 refine Sy.seq<|sC ?_
 obtain ⟨t9,ht9⟩:=xE (decide (i<n))
 refine sp J<|sP (pT g3 121)<|sS (.slice A n cp) (AH (R:=[(g3,151,(cIN z pt ix ci cg (.slice A n cp)).toArray)]) (g:=g3) (f:=121) X4.one (λy hy=>BA (List.mem_append_right R hy)) J DX)<|sP (.int .i64 (n:Int))<|sS (.bool t9) (qls J J J ht9)<|sG ?_
 cases t9
 case' false =>
  have z3:=dN ht9
  obtain rfl:n=i:=om
  rw [List.take_of_length_le om] at q6
  have l6:b6.length≤b5.length+(wi.map wtT).sum:=q6.len
  refine sU<|Sy.exit<|Sy.then_exit<|Sy.then_exit<|Sy.in_exit ?_
  have q:=q1.then_ (q2.then_ (q3.then_ (q4.then_ (q5.then_ q6))))
  have e:E7 ⟨z,pt,ix,iss,pg,wi⟩=(okS 1 2 z && (C4 iss && ((if z=2 then Hr pg else DL pg) && (decide (n≤16) && wi.all Hs)))):=by rw [← n1]; rfl
  have e2:Dr ⟨z,pt,ix,iss,pg,wi⟩=[CZ z]++(pt++(nb 4 ix++(Dq iss++((if z=2 then F9 pg else [])++(Af n++wi.flatMap Er))))):=by rw [← n1]; rfl
  rw [Bool.true_and] at q
  unfold Mu at q
  simp only [List.append_assoc] at q
  exact Sy.retT0 J (WB gw bad6 s6 R) (λ_ h=>CQ h) (λ_=>⟨s6,bad6,b6,by rw [e,e2]; exact q,p6,rfl⟩)
 have z3:=dY ht9
 obtain ⟨x,hx⟩:∃ x,wi[i]? = some x:=⟨_,List.getElem?_eq_getElem om⟩
 obtain ⟨g,o,hA,hq⟩:=n4 (by intro e; rw [e] at hx; cases hx)
 obtain ⟨cx,y1,y2,y3,y4⟩:=hq i x hx
 obtain ⟨vx,rfl,hvx⟩:=y3
 have d1:XAt (rdC w0.inn []) g (o+i*1) _:=λj u hu=>.inl (y4 j u hu)
 have htk:wi.take (i+1)=wi.take i++[x]:=by rw [List.take_add_one,hx]; rfl
 have hsi:=hsum6 (i+1)
 rw [htk] at hsi
 simp only [List.map_append,List.sum_append,List.map_cons,List.map_nil,List.sum_cons,List.sum_nil] at hsi
 have hyl:=q6.len
 refine sT<|Sy.skip<|Sy.then_<|Sy.seq<|Sy.block<|Sy.region<|sp J<|sP (pT g3 121)<|sS (.slice A n cp) (AH (R:=[(g3,151,(cIN z pt ix ci cg (.slice A n cp)).toArray)]) (g:=g3) (f:=121) X4.one (λy hy=>BA (List.mem_append_right R hy)) J DX)<|sp J<|sS (.pointer (some ⟨g,o+i*1,none⟩)) (Quiet.pure (Bl 149 _ _ _ A g o n cp i 1 .i64 hA J J J DX kF z3))<|sS vx (AH (R:=[]) d1.one (λy hy=>by cases hy) rfl Ay)<|Sy.callT (λw hw=>Co w0.inn gw bad6 s6 (R++[(g3,151,(cIN z pt ix ci cg (.slice A n cp)).toArray)]) b6 vx x 256 dZ p6 hvx (by have e9:wtT x=9+x.length:=rfl; omega) w hw) (λv M hM=>?_)
 obtain ⟨s9,bad9,b9,q9,p9,rfl⟩:=hM
 refine Sy.nil<|Sy.in_<|Sy.then_<|Sy.region<|sp J<|sS (iZ (i+1)) (qad J J J)<|sp J<|Sy.nil ?_
 have hW:=q6.then_ q9
 have hW':Wrote ((wi.take (i+1)).all Hs) ((wi.take (i+1)).flatMap Er) (((wi.take (i+1)).map wtT).sum) bad5 b5 bad9 b9:=by
  rw [htk]
  simp only [List.all_append,List.flatMap_append,List.map_append,List.sum_append,List.all_cons,List.all_nil,List.flatMap_cons,List.flatMap_nil,List.map_cons,List.map_nil,List.sum_cons,List.sum_nil,Bool.and_true,List.append_nil,Nat.add_zero]
  first | exact hW | simpa only [Bool.and_true] using hW
 exact Sy.againT (s9,bad9,b9) z3 ⟨hW',p9⟩ ac3 (λw h=>h)
theorem Qr (w0:Base) (gw:Nat) (bad:Bool) (s:Slc) (R:AA) (b:Byt) (x:MTr) (cs:List Value) (hx:Cy (rdW w0.world) cs x) (hb:BS s b) (hl:b.length+FJ x≤1000000000000) (w:World) (hw:St w0 w (WB gw bad s R)) :
  AL 29 #[ptr gw,.agg cs.toArray] w (AQ w0 (Wd gw R (Dx x) (Dp x) (FJ x) bad b)):=by
 obtain ⟨af,is,os⟩:=x
 obtain ⟨vi,vo,hcs,h1,⟨A,n,cp,rfl,n1,m2,m3,n4⟩,⟨A2,n2,cp2,rfl,k1,k2,k3,k4⟩⟩:=hx
 obtain rfl:cs=cTX af (.slice A n cp) (.slice A2 n2 cp2):=hcs
 dsimp only at h1 n1 n4 k1 k4
 unfold FJ at hl
 dsimp only at hl
 have hi9:=I9 (wt:=Dg) (λx=>by unfold Dg; omega) is
 have ho9:=I9 (wt:=Dv) (λx=>by unfold Dv; omega) os
 have hlen:(cTX af (.slice A n cp) (.slice A2 n2 cp2)).length=3:=rfl
 refine Sy.enterT (args:=[ptr gw,.agg (cTX af (.slice A n cp) (.slice A2 n2 cp2)).toArray]) hw Tryz.func29 J kL<|sC<|sM 26 (cTX af (.slice A n cp) (.slice A2 n2 cp2)).toArray (λg3=>?_) kR (λw=>An J J kZ hlen w)
 refine Sy.permS (M:=WB gw bad s (R++[(g3,26,(cTX af (.slice A n cp) (.slice A2 n2 cp2)).toArray)])) (List.Perm.of_eq (by simp only [List.append_assoc])) ?_
 have X0:XAt (rdC w0.inn [(g3,26,(cTX af (.slice A n cp) (.slice A2 n2 cp2)).toArray)]) g3 0 ((cTX af (.slice A n cp) (.slice A2 n2 cp2))):=λi u hu=>.inr ⟨_,_,List.mem_singleton.2 J,by rw [Nat.zero_add,List.getElem?_toArray]; exact hu⟩
 have X1:XAt (rdC w0.inn [(g3,26,(cTX af (.slice A n cp) (.slice A2 n2 cp2)).toArray)]) g3 1 ([.slice A n cp]++([.slice A2 n2 cp2])):=X0.right (n:=1) rfl
 have X2:XAt (rdC w0.inn [(g3,26,(cTX af (.slice A n cp) (.slice A2 n2 cp2)).toArray)]) g3 2 ([.slice A2 n2 cp2]):=X1.right (n:=1) rfl
 refine sA<|sp J<|sP (pT g3 0)<|sS (uZ (af:Int)) (AH (R:=[(g3,26,(cTX af (.slice A n cp) (.slice A2 n2 cp2)).toArray)]) (g:=g3) (f:=0) X0.one (λy hy=>BA (List.mem_append_right R hy)) J CF)<|Sy.callT (λw hw=>KJ 8 dZ w0.inn gw bad s (R++[(g3,26,(cTX af (.slice A n cp) (.slice A2 n2 cp2)).toArray)]) b af h1 hb om w hw) (λu M hM=>?_)
 obtain ⟨s1,bad1,b1,q1,p1,rfl⟩:=hM
 have l1:b1.length≤b.length+8:=q1.len
 refine sA<|sp J<|sP (pT g3 1)<|sS (.slice A n cp) (AH (R:=[(g3,26,(cTX af (.slice A n cp) (.slice A2 n2 cp2)).toArray)]) (g:=g3) (f:=1) X1.one (λy hy=>BA (List.mem_append_right R hy)) J EM)<|sP (.int .i64 (n:Int))<|Sy.callT (λw hw=>Ez w0.inn gw bad1 s1 (R++[(g3,26,(cTX af (.slice A n cp) (.slice A2 n2 cp2)).toArray)]) b1 n 16 om dZ p1 om w hw) (λu M hM=>?_)
 obtain ⟨s2,bad2,b2,q2,p2,rfl⟩:=hM
 have l2:b2.length≤b1.length+9:=q2.len
 refine sG<|Sy.seq<|sC<|sP (.int .i64 0)<|sG<|Sy.block ?_
 have hsum3:∀ i,((is.take i).map Dg).sum≤(is.map Dg).sum:=λi=>by
  have e:=congrArg (λz=>(z.map Dg).sum) (List.take_append_drop i is)
  simp only [List.map_append,List.sum_append] at e
  omega
 refine Sy.loopT (Y:=Slc×Bool×Byt) n (λi _=>[(0,ptr gw),(3,ptr g3),(4,.int .i64 (i:Int))]) (λ_ y=>WB gw y.2.1 y.1 (R++[(g3,26,(cTX af (.slice A n cp) (.slice A2 n2 cp2)).toArray)])) (λi y=>Wrote ((is.take i).all E7) ((is.take i).flatMap Dr) (((is.take i).map Dg).sum) bad2 b2 y.2.1 y.2.2∧BS y.1 y.2.2) (s2,bad2,b2) ⟨by
  have e:=Wrote.raw [] bad2 b2 (k:=0) (Nat.le_refl 0)
  rw [List.append_nil] at e
  exact e,p2⟩ ac3 (λ_ h=>h) (λi y hi hy=>?_)
 obtain ⟨s3,bad3,b3⟩:=y
 obtain ⟨q3,p3⟩:=hy
 dsimp only at q3 p3 ⊢
 refine Sy.seq<|sC ?_
 obtain ⟨t9,ht9⟩:=xE (decide (i<n))
 refine sp J<|sP (pT g3 1)<|sS (.slice A n cp) (AH (R:=[(g3,26,(cTX af (.slice A n cp) (.slice A2 n2 cp2)).toArray)]) (g:=g3) (f:=1) X1.one (λy hy=>BA (List.mem_append_right R hy)) J EM)<|sP (.int .i64 (n:Int))<|sS (.bool t9) (qls J J J ht9)<|sG ?_
 cases t9
 case' false =>
  have z3:=dN ht9
  obtain rfl:n=i:=om
  rw [List.take_of_length_le om] at q3
  have l3:b3.length≤b2.length+(is.map Dg).sum:=q3.len
  refine sU<|Sy.exit<|Sy.then_exit<|Sy.then_exit<|Sy.in_exit<|Sy.then_<|sC<|sp J<|sP (pT g3 2)<|sS (.slice A2 n2 cp2) (AH (R:=[(g3,26,(cTX af (.slice A n cp) (.slice A2 n2 cp2)).toArray)]) (g:=g3) (f:=2) X2.one (λy hy=>BA (List.mem_append_right R hy)) J EL)<|sP (.int .i64 (n2:Int))<|Sy.callT (λw hw=>Ez w0.inn gw bad3 s3 (R++[(g3,26,(cTX af (.slice A n cp) (.slice A2 n2 cp2)).toArray)]) b3 n2 16 om dZ p3 om w hw) (λu M hM=>?_)
  obtain ⟨s4,bad4,b4,q4,p4,rfl⟩:=hM
  have l4:b4.length≤b3.length+9:=q4.len
  refine sA<|sP (.int .i64 0)<|sG<|Sy.block ?_
  have hsum5:∀ i,((os.take i).map Dv).sum≤(os.map Dv).sum:=λi=>by
   have e:=congrArg (λz=>(z.map Dv).sum) (List.take_append_drop i os)
   simp only [List.map_append,List.sum_append] at e
   omega
  refine Sy.loopT (Y:=Slc×Bool×Byt) n2 (λi _=>[(0,ptr gw),(3,ptr g3),(5,.int .i64 (i:Int))]) (λ_ y=>WB gw y.2.1 y.1 (R++[(g3,26,(cTX af (.slice A n cp) (.slice A2 n2 cp2)).toArray)])) (λi y=>Wrote ((os.take i).all GO) ((os.take i).flatMap F_) (((os.take i).map Dv).sum) bad4 b4 y.2.1 y.2.2∧BS y.1 y.2.2) (s4,bad4,b4) ⟨by
   have e:=Wrote.raw [] bad4 b4 (k:=0) (Nat.le_refl 0)
   rw [List.append_nil] at e
   exact e,p4⟩ ac3 (λ_ h=>h) (λi y hi hy=>?_)
  obtain ⟨s5,bad5,b5⟩:=y
  obtain ⟨q5,p5⟩:=hy
  dsimp only at q5 p5 ⊢
  refine Sy.seq<|sC ?_
  obtain ⟨t9,ht9⟩:=xE (decide (i<n2))
  refine sp J<|sP (pT g3 2)<|sS (.slice A2 n2 cp2) (AH (R:=[(g3,26,(cTX af (.slice A n cp) (.slice A2 n2 cp2)).toArray)]) (g:=g3) (f:=2) X2.one (λy hy=>BA (List.mem_append_right R hy)) J EL)<|sP (.int .i64 (n2:Int))<|sS (.bool t9) (qls J J J ht9)<|sG ?_
  cases t9
  case' false =>
   have z3:=dN ht9
   obtain rfl:n2=i:=om
   rw [List.take_of_length_le om] at q5
   have l5:b5.length≤b4.length+(os.map Dv).sum:=q5.len
   refine sU<|Sy.exit<|Sy.then_exit<|Sy.then_exit<|Sy.in_exit ?_
   have q:=q1.then_ ((q2.then_ q3).then_ (q4.then_ q5))
   rw [Bool.true_and, ← n1, ← k1] at q
   exact Sy.retT0 J (WB gw bad5 s5 R) (λ_ h=>CQ h) (λ_=>⟨s5,bad5,b5,q,p5,rfl⟩)
  have z3:=dY ht9
  obtain ⟨x,hx⟩:∃ x,os[i]? = some x:=⟨_,List.getElem?_eq_getElem om⟩
  obtain ⟨g,o,hA,hq⟩:=k4 (by intro e; rw [e] at hx; cases hx)
  obtain ⟨cx,y1,y2,y3,y4⟩:=hq i x hx
  have d1:XAt (rdC w0.inn []) g (o+i*58) _:=λj u hu=>.inl (y4 j u hu)
  have htk:os.take (i+1)=os.take i++[x]:=by rw [List.take_add_one,hx]; rfl
  have hsi:=hsum5 (i+1)
  rw [htk] at hsi
  simp only [List.map_append,List.sum_append,List.map_cons,List.map_nil,List.sum_cons,List.sum_nil] at hsi
  have hyl:=q5.len
  refine sT<|Sy.skip<|Sy.then_<|Sy.seq<|Sy.block<|Sy.region<|sp J<|sP (pT g3 2)<|sS (.slice A2 n2 cp2) (AH (R:=[(g3,26,(cTX af (.slice A n cp) (.slice A2 n2 cp2)).toArray)]) (g:=g3) (f:=2) X2.one (λy hy=>BA (List.mem_append_right R hy)) J EL)<|sp J<|sS (.pointer (some ⟨g,o+i*58,none⟩)) (Quiet.pure (Bl 24 _ _ _ A2 g o n2 cp2 i 58 .i64 hA J J J EL kF z3))<|sS (.agg cx.toArray) (Bd (R:=[]) d1 (λy hy=>by cases hy) y1 J G')<|Sy.callT (λw hw=>PP w0.inn gw bad5 s5 (R++[(g3,26,(cTX af (.slice A n cp) (.slice A2 n2 cp2)).toArray)]) b5 x cx y3 p5 om w hw) (λv M hM=>?_)
  obtain ⟨s9,bad9,b9,q9,p9,rfl⟩:=hM
  refine Sy.nil<|Sy.in_<|Sy.then_<|Sy.region<|sp J<|sS (iZ (i+1)) (qad J J J)<|sp J<|Sy.nil ?_
  have hW:=q5.then_ q9
  have hW':Wrote ((os.take (i+1)).all GO) ((os.take (i+1)).flatMap F_) (((os.take (i+1)).map Dv).sum) bad4 b4 bad9 b9:=by
   rw [htk]
   simp only [List.all_append,List.flatMap_append,List.map_append,List.sum_append,List.all_cons,List.all_nil,List.flatMap_cons,List.flatMap_nil,List.map_cons,List.map_nil,List.sum_cons,List.sum_nil,Bool.and_true,List.append_nil,Nat.add_zero]
   first | exact hW | simpa only [Bool.and_true] using hW
  exact Sy.againT (s9,bad9,b9) z3 ⟨hW',p9⟩ ac3 (λw h=>h)
 have z3:=dY ht9
 obtain ⟨x,hx⟩:∃ x,is[i]? = some x:=⟨_,List.getElem?_eq_getElem om⟩
 obtain ⟨g,o,hA,hq⟩:=n4 (by intro e; rw [e] at hx; cases hx)
 obtain ⟨cx,y1,y2,y3,y4⟩:=hq i x hx
 have d1:XAt (rdC w0.inn []) g (o+i*122) _:=λj u hu=>.inl (y4 j u hu)
 have htk:is.take (i+1)=is.take i++[x]:=by rw [List.take_add_one,hx]; rfl
 have hsi:=hsum3 (i+1)
 rw [htk] at hsi
 simp only [List.map_append,List.sum_append,List.map_cons,List.map_nil,List.sum_cons,List.sum_nil] at hsi
 have hyl:=q3.len
 refine sT<|Sy.skip<|Sy.then_<|Sy.seq<|Sy.block<|Sy.region<|sp J<|sP (pT g3 1)<|sS (.slice A n cp) (AH (R:=[(g3,26,(cTX af (.slice A n cp) (.slice A2 n2 cp2)).toArray)]) (g:=g3) (f:=1) X1.one (λy hy=>BA (List.mem_append_right R hy)) J EM)<|sp J<|sS (.pointer (some ⟨g,o+i*122,none⟩)) (Quiet.pure (Bl 23 _ _ _ A g o n cp i 122 .i64 hA J J J EM kF z3))<|sS (.agg cx.toArray) (Bd (R:=[]) d1 (λy hy=>by cases hy) y1 J E8)<|Sy.callT (λw hw=>Ry w0.inn gw bad3 s3 (R++[(g3,26,(cTX af (.slice A n cp) (.slice A2 n2 cp2)).toArray)]) b3 x cx y3 p3 om w hw) (λv M hM=>?_)
 obtain ⟨s9,bad9,b9,q9,p9,rfl⟩:=hM
 refine Sy.nil<|Sy.in_<|Sy.then_<|Sy.region<|sp J<|sS (iZ (i+1)) (qad J J J)<|sp J<|Sy.nil ?_
 have hW:=q3.then_ q9
 have hW':Wrote ((is.take (i+1)).all E7) ((is.take (i+1)).flatMap Dr) (((is.take (i+1)).map Dg).sum) bad2 b2 bad9 b9:=by
  rw [htk]
  simp only [List.all_append,List.flatMap_append,List.map_append,List.sum_append,List.all_cons,List.all_nil,List.flatMap_cons,List.flatMap_nil,List.map_cons,List.map_nil,List.sum_cons,List.sum_nil,Bool.and_true,List.append_nil,Nat.add_zero]
  first | exact hW | simpa only [Bool.and_true] using hW
 exact Sy.againT (s9,bad9,b9) z3 ⟨hW',p9⟩ ac3 (λw h=>h)
theorem Hu (w0:Base) (gr:Nat) (sl:Value) (b:Byt) (at_ e:Nat) (R:AA) (hat:at_≤b.length) (he:e≤200) (hl:b.length≤70368744177664) (hv:BytR (rdW w0.world) sl b) (w:World) (hw:St w0 w (RB gr sl at_ e R)) :
  AL 69 #[ptr gr,.int .i64 4] w (AQ w0 (Rfd (Bj 4) (λx v N=>v=uZ (x:Int)∧x<4294967296∧N=[]) gr sl b R at_ e)):=by
 refine Sy.enterT (args:=[ptr gr,.int .i64 4]) hw Tryz.func69 J kL<|sC<|sP (uZ 0)<|sA<|sp J<|sp J<|Sy.callT (λw hw=>D6 w0.inn gr sl b at_ e 4 R hat he om hl hv w hw) (λu M hM=>?_)
 obtain ⟨x,a2,e2,N,q1,⟨q2,q3⟩,q4,q5,rfl⟩:=hM
 have hs:said x<4294967296:=by
  have h1:=Cn x
  rw [q3] at h1
  exact h1
 refine sS (uZ ((said x:Nat):Int)) (qg (λw' hw=>Ew w' u x om (q2.byt.le (λg o v h=>Aa (w0:=w0.inn) hw (R:=N) (λb hb=>List.mem_cons_of_mem _ (List.mem_append_right _ hb)) g o v (.inr h)))))<|sp J<|sG<|Sy.ret ?_
 exact Sy.retT1 (RB gr sl a2 e2 (R++[])) J (.inl (show _=_ by kernel_rfl)) (λ_ h=>h.less (((List.Sublist.refl R).append (List.nil_sublist N)).cons_cons _)) ⟨_,_,_,[],q1.bind (After.ret (said x) _),⟨rfl,hs,rfl⟩,q4,q5,rfl⟩
abbrev zePG:List Value:=((([]:List Value))++(Z32++([Value.slice none 0 0]++([Value.int .u32 0]++([Value.int .u32 0]++([Value.slice none 0 0]++([Value.slice none 0 0]++(([]:List Value)))))))))
theorem PN (w0:Base) (gr:Nat) (sl:Value) (b:Byt) (at_ e:Nat) (R:AA) (hat:at_≤b.length) (he:e≤200) (hl:b.length≤70368744177664) (hv:BytR (rdW w0.world) sl b) (w:World) (hw:St w0 w (RB gr sl at_ e R)) :
  AL 129 #[ptr gr] w (AQ w0 (Rfd JI (J6 37 D3) gr sl b R at_ e)):=by
 have L0:([]:List Value).length=0:=rfl
 refine Sy.enterT (args:=[ptr gr]) hw Tryz.func129 J kL<|sC<|sM 148 zePG.toArray (λg2=>?_)
 refine Sy.movT (pre:=[(gr,166,rrC sl at_ e)]) (T:=R)<|sA<|sM 148 ((([]:List Value))++(Z32++([Value.slice none 0 0]++([Value.int .u32 0]++([Value.int .u32 0]++([Value.slice none 0 0]++([Value.slice none 0 0]++(([]:List Value))))))))).toArray (λg3=>?_)
 refine Sy.movT (pre:=[(gr,166,rrC sl at_ e),(g2,148,zePG.toArray)]) (T:=R)<|sA<|sp J<|Sy.callT (λw hw=>EF w0.inn gr sl b at_ e ((g2,148,zePG.toArray)::(g3,148,((([]:List Value))++(Z32++([Value.slice none 0 0]++([Value.int .u32 0]++([Value.int .u32 0]++([Value.slice none 0 0]++([Value.slice none 0 0]++(([]:List Value))))))))).toArray)::R) hat he hl hv w hw) (λu M hM=>?_)
 obtain ⟨x1,a1,e1,N1,p1,⟨rfl,r1,rfl⟩,u1,v1_,rfl⟩:=hM
 rw [List.append_nil ((g2,148,zePG.toArray)::(g3,148,((([]:List Value))++(Z32++([Value.slice none 0 0]++([Value.int .u32 0]++([Value.int .u32 0]++([Value.slice none 0 0]++([Value.slice none 0 0]++(([]:List Value))))))))).toArray)::R)]
 have n1:(x1.map bv).length=32:=by rw [List.length_map,r1]
 refine sP (pT g3 0)<|sw 2 J ((([]:List Value)++(x1.map bv))++([Value.slice none 0 0]++([Value.int .u32 0]++([Value.int .u32 0]++([Value.slice none 0 0]++([Value.slice none 0 0]++(([]:List Value)))))))).toArray (by rw [show ((([]:List Value)++(x1.map bv))++([Value.slice none 0 0]++([Value.int .u32 0]++([Value.int .u32 0]++([Value.slice none 0 0]++([Value.slice none 0 0]++(([]:List Value))))))))=(([]:List Value))++(x1.map bv++([Value.slice none 0 0]++([Value.int .u32 0]++([Value.int .u32 0]++([Value.slice none 0 0]++([Value.slice none 0 0]++(([]:List Value)))))))) from List.append_assoc ..]; exact wM 37 (([]:List Value)) Z32 (x1.map bv) ([Value.slice none 0 0]++([Value.int .u32 0]++([Value.int .u32 0]++([Value.slice none 0 0]++([Value.slice none 0 0]++(([]:List Value))))))) 32 0 _ _ J kR kR kR L0 DS n1 (Bw x1)) ?_
 have L1:(([]:List Value)++(x1.map bv)).length=32:=by rw [List.length_append,L0,n1]
 refine sA<|sp J<|Sy.callT (λw hw=>CV 1024 dZ w0.inn gr sl b a1 e1 ((g2,148,zePG.toArray)::(g3,148,((([]:List Value)++(x1.map bv))++([Value.slice none 0 0]++([Value.int .u32 0]++([Value.int .u32 0]++([Value.slice none 0 0]++([Value.slice none 0 0]++(([]:List Value)))))))).toArray)::R) u1 v1_ hl hv w hw) (λc2 M hM=>?_)
 obtain ⟨x2,a2,e2,N2,p2,r2,u2,v2_,rfl⟩:=hM
 refine Sy.permS (M:=RB gr sl a2 e2 ((g2,148,zePG.toArray)::(g3,148,((([]:List Value)++(x1.map bv))++([Value.slice none 0 0]++([Value.int .u32 0]++([Value.int .u32 0]++([Value.slice none 0 0]++([Value.slice none 0 0]++(([]:List Value)))))))).toArray)::(R++N2))) (List.Perm.of_eq (by simp only [List.cons_append,List.append_assoc])) ?_
 have hc2:=r2.byt.cells
 refine sP (pT g3 32)<|sw 2 J ((([]:List Value)++(x1.map bv)++([c2]))++([Value.int .u32 0]++([Value.int .u32 0]++([Value.slice none 0 0]++([Value.slice none 0 0]++(([]:List Value))))))).toArray (by rw [show ((([]:List Value)++(x1.map bv)++([c2]))++([Value.int .u32 0]++([Value.int .u32 0]++([Value.slice none 0 0]++([Value.slice none 0 0]++(([]:List Value)))))))=(([]:List Value)++(x1.map bv))++([c2]++([Value.int .u32 0]++([Value.int .u32 0]++([Value.slice none 0 0]++([Value.slice none 0 0]++(([]:List Value))))))) from List.append_assoc ..]; exact Writes.one 32 27 c2 _ _ J kR kR kR hc2.1 hc2.2 (by rw [List.size_toArray,List.length_append,L1]; exact Nat.lt_add_of_pos_right (Nat.succ_pos _)) (Aq L1)) ?_
 have L2:(([]:List Value)++(x1.map bv)++([c2])).length=33:=by rw [List.length_append,L1]; rfl
 refine sA<|sp J<|Sy.callT (λw hw=>Hu w0.inn gr sl b a2 e2 ((g2,148,zePG.toArray)::(g3,148,((([]:List Value)++(x1.map bv)++([c2]))++([Value.int .u32 0]++([Value.int .u32 0]++([Value.slice none 0 0]++([Value.slice none 0 0]++(([]:List Value))))))).toArray)::(R++N2)) u2 v2_ hl hv w hw) (λu M hM=>?_)
 obtain ⟨x3,a3,e3,N3,p3,⟨rfl,r3,rfl⟩,u3,v3_,rfl⟩:=hM
 rw [List.append_nil ((g2,148,zePG.toArray)::(g3,148,((([]:List Value)++(x1.map bv)++([c2]))++([Value.int .u32 0]++([Value.int .u32 0]++([Value.slice none 0 0]++([Value.slice none 0 0]++(([]:List Value))))))).toArray)::(R++N2))]
 refine sS (.int .u32 (x3:Int)) (Quiet.pure (λw=>G2 w _ _ _ x3 r3 J J))<|sP (pT g3 33)<|sw 2 J ((([]:List Value)++(x1.map bv)++([c2])++([Value.int .u32 (x3:Int)]))++([Value.int .u32 0]++([Value.slice none 0 0]++([Value.slice none 0 0]++(([]:List Value)))))).toArray (by rw [show ((([]:List Value)++(x1.map bv)++([c2])++([Value.int .u32 (x3:Int)]))++([Value.int .u32 0]++([Value.slice none 0 0]++([Value.slice none 0 0]++(([]:List Value))))))=(([]:List Value)++(x1.map bv)++([c2]))++([Value.int .u32 (x3:Int)]++([Value.int .u32 0]++([Value.slice none 0 0]++([Value.slice none 0 0]++(([]:List Value)))))) from List.append_assoc ..]; exact Writes.one 33 140 (.int .u32 (x3:Int)) _ _ J kR kR kR J J (by rw [List.size_toArray,List.length_append,L2]; exact Nat.lt_add_of_pos_right (Nat.succ_pos _)) (Aq L2)) ?_
 have L3:(([]:List Value)++(x1.map bv)++([c2])++([Value.int .u32 (x3:Int)])).length=34:=by rw [List.length_append,L2]; rfl
 refine sA<|sp J<|Sy.callT (λw hw=>Hu w0.inn gr sl b a3 e3 ((g2,148,zePG.toArray)::(g3,148,((([]:List Value)++(x1.map bv)++([c2])++([Value.int .u32 (x3:Int)]))++([Value.int .u32 0]++([Value.slice none 0 0]++([Value.slice none 0 0]++(([]:List Value)))))).toArray)::(R++N2)) u3 v3_ hl hv w hw) (λu M hM=>?_)
 obtain ⟨x4,a4,e4,N4,p4,⟨rfl,r4,rfl⟩,u4,v4_,rfl⟩:=hM
 rw [List.append_nil ((g2,148,zePG.toArray)::(g3,148,((([]:List Value)++(x1.map bv)++([c2])++([Value.int .u32 (x3:Int)]))++([Value.int .u32 0]++([Value.slice none 0 0]++([Value.slice none 0 0]++(([]:List Value)))))).toArray)::(R++N2))]
 refine sS (.int .u32 (x4:Int)) (Quiet.pure (λw=>G2 w _ _ _ x4 r4 J J))<|sP (pT g3 34)<|sw 2 J ((([]:List Value)++(x1.map bv)++([c2])++([Value.int .u32 (x3:Int)])++([Value.int .u32 (x4:Int)]))++([Value.slice none 0 0]++([Value.slice none 0 0]++(([]:List Value))))).toArray (by rw [show ((([]:List Value)++(x1.map bv)++([c2])++([Value.int .u32 (x3:Int)])++([Value.int .u32 (x4:Int)]))++([Value.slice none 0 0]++([Value.slice none 0 0]++(([]:List Value)))))=(([]:List Value)++(x1.map bv)++([c2])++([Value.int .u32 (x3:Int)]))++([Value.int .u32 (x4:Int)]++([Value.slice none 0 0]++([Value.slice none 0 0]++(([]:List Value))))) from List.append_assoc ..]; exact Writes.one 34 140 (.int .u32 (x4:Int)) _ _ J kR kR kR J J (by rw [List.size_toArray,List.length_append,L3]; exact Nat.lt_add_of_pos_right (Nat.succ_pos _)) (Aq L3)) ?_
 have L4:(([]:List Value)++(x1.map bv)++([c2])++([Value.int .u32 (x3:Int)])++([Value.int .u32 (x4:Int)])).length=35:=by rw [List.length_append,L3]; rfl
 refine sA ?_
 obtain ⟨CP,hCP⟩:=xE ((([]:List Value)++(x1.map bv)++([c2])++([Value.int .u32 (x3:Int)])++([Value.int .u32 (x4:Int)])))
 rw [← hCP] at L4 ⊢
 refine sp J<|Sy.callT (λw hw=>E0 w0.inn gr sl b a4 e4 32 ((g2,148,zePG.toArray)::(g3,148,(CP++([Value.slice none 0 0]++([Value.slice none 0 0]++(([]:List Value))))).toArray)::(R++N2)) u4 v4_ dZ hl hv w hw) (λu M hM=>?_)
 obtain ⟨nP,amP,emP,NmP,qmP,⟨rfl,hmP,rfl⟩,umP,vmP,rfl⟩:=hM
 rw [List.append_nil ((g2,148,zePG.toArray)::(g3,148,(CP++([Value.slice none 0 0]++([Value.slice none 0 0]++(([]:List Value))))).toArray)::(R++N2))]
 refine sp J<|sG<|Sy.seq<|sC<|sP (.int .i64 0)<|sG<|Sy.block<|Sy.loopT (Y:=RLsN Byt) nP (λi _=>[(0,ptr gr),(2,ptr g2),(3,ptr g3),(4,.int .i64 (nP:Int)),(5,.int .i64 (i:Int))]) (λ_ y=>[(gr,166,rrC sl y.at_ y.e),(g2,148,zePG.toArray),(g3,148,(CP++([y.r.v]++([Value.slice none 0 0]++(([]:List Value))))).toArray)]++(y.r.bl++((R++N2)++y.N))) (λi y=>After (CK (A_ 32) i) ⟨b.drop amP,emP⟩ y.xs ⟨b.drop y.at_,y.e⟩∧y.at_≤b.length∧y.e≤200∧y.xs.length=i∧RowsOk 37 32 DC y.r y.N y.xs) ⟨amP,emP,[],nilS,[]⟩ ⟨After.ret [] _,umP,vmP,rfl,RowsOk.nil⟩ ac5 (λ_ h=>h.perm (List.Perm.of_eq (congrArg (λz=>(gr,166,rrC sl amP emP)::(g2,148,zePG.toArray)::(g3,148,(CP++([Value.slice none 0 0]++([Value.slice none 0 0]++(([]:List Value))))).toArray)::z) (List.append_nil (R++N2)).symm))) (λi y hi hy=>?_)
 obtain ⟨alP,elP,xsP,rP,NlP⟩:=y
 obtain ⟨y1,ulP,vlP,y4,y5P⟩:=hy
 dsimp only at y1 ulP vlP y4 y5P ⊢
 obtain ⟨b3,hb3⟩:=xE (decide (i<nP∧elP=0))
 refine Sy.seq<|Sy.seq<|De [(0,ptr gr),(2,ptr g2),(3,ptr g3),(4,.int .i64 (nP:Int)),(5,.int .i64 (i:Int)),(28,.bool b3)] ([(gr,166,rrC sl alP elP),(g2,148,zePG.toArray),(g3,148,(CP++([rP.v]++([Value.slice none 0 0]++(([]:List Value))))).toArray)]++(rP.bl++((R++N2)++NlP))) ?_ ?_
 ·refine Sy.region ?_
  obtain ⟨b1,hb1⟩:=xE (decide (i<nP))
  refine sp J<|sp J<|sS (.bool b1) (qls J J J hb1)<|sp J ?_
  cases b1
  ·obtain rfl:b3=false:=by rw [hb3]; exact decide_eq_false (λh=>of_decide_eq_false hb1.symm h.1)
   refine sN<|sN<|sP (.bool false)<|Sy.nil ?_
   exact BK ac6 (λ_ h=>h)
  ·obtain ⟨b2,hb2⟩:=xE (decide (elP=0))
   obtain rfl:b3=b2:=by rw [hb3,hb2]; exact decide_eq_decide.2 ⟨λh=>h.2,λh=>⟨of_decide_eq_true hb1.symm,h⟩⟩
   refine sp J<|sS (.bool b3) (qg (λw hw=>by rw [hb2]; exact Fw w0.inn gr sl alP elP (List.mem_cons_self ..) w hw))<|sP (.bool b3)<|Sy.nil ?_
   exact BK ac6 (λ_ h=>h)
 refine Sy.then_ ?_
 cases b3
 case' false =>
  have l3:=dN hb3
  have hAP:After (CK (A_ 32) nP) ⟨b.drop amP,emP⟩ xsP ⟨b.drop alP,elP⟩:=by
   by_cases h:i<nP
   ·exact y1.stop (λh0=>l3 ⟨h,h0⟩) hi
   ·obtain rfl:nP=i:=om
    exact y1
  have hLP:=RowsOk.lst (rep:=DC) Eo y5P
  refine sU<|Sy.exit<|Sy.then_exit<|Sy.then_exit<|Sy.in_exit<|Sy.then_ ?_
  have L5:(CP++([rP.v])).length=36:=by rw [List.length_append,L4]; rfl
  refine sC<|Sy.permS (M:=RB gr sl alP elP ((g2,148,zePG.toArray)::(g3,148,((CP++([rP.v]))++([Value.slice none 0 0]++(([]:List Value)))).toArray)::(rP.bl++((R++N2)++NlP)))) (List.Perm.of_eq (by simp only [List.append_assoc,List.cons_append,List.nil_append]))<|sp J<|Sy.callT (λw hw=>CV 256 dZ w0.inn gr sl b alP elP ((g2,148,zePG.toArray)::(g3,148,((CP++([rP.v]))++([Value.slice none 0 0]++(([]:List Value)))).toArray)::(rP.bl++((R++N2)++NlP))) ulP vlP hl hv w hw) (λc5 M hM=>?_)
  obtain ⟨x5,a5,e5,N5,p5,r5,u5,v5_,rfl⟩:=hM
  refine Sy.permS (M:=RB gr sl a5 e5 ((g2,148,zePG.toArray)::(g3,148,((CP++([rP.v]))++([Value.slice none 0 0]++(([]:List Value)))).toArray)::((rP.bl++((R++N2)++NlP))++N5))) (List.Perm.of_eq (by simp only [List.cons_append,List.append_assoc])) ?_
  have hc5:=r5.byt.cells
  refine sP (pT g3 36)<|sw 2 J ((CP++([rP.v])++([c5]))++([]:List Value)).toArray (by rw [show ((CP++([rP.v])++([c5]))++([]:List Value))=(CP++([rP.v]))++([c5]++(([]:List Value))) from List.append_assoc ..]; exact Writes.one 36 27 c5 _ _ J kR kR kR hc5.1 hc5.2 (by rw [List.size_toArray,List.length_append,L5]; exact Nat.lt_add_of_pos_right (Nat.succ_pos _)) (Aq L5)) ?_
  have L6:(CP++([rP.v])++([c5])).length=37:=by rw [List.length_append,L5]; rfl
  have hAf:After JI ⟨b.drop at_,e⟩ ⟨x1,x2,x3,x4,xsP,x5⟩ ⟨b.drop a5,e5⟩:=p1.bind (p2.bind (p3.bind (p4.bind ((qmP.bind hAP).bind (p5.bind (After.ret _ _))))))
  have hrp:D3 (rdB (N2++(NlP++(rP.bl++(N5))))) ((CP++([rP.v])++([c5]))++([]:List Value)) ⟨x1,x2,x3,x4,xsP,x5⟩:=⟨c2,rP.v,c5,by rw [hCP]; simp only [cPG,List.append_assoc,List.append_nil,List.nil_append],r1,r2.byt.le (Ac λb h=>by simp [h]),r3,r4,LstR.le (rep:=DC) Eo (Ac λb h=>by simp only [List.mem_append] at h ⊢; rcases h with h | h <;> simp [h]) hLP,r5.byt.le (Ac λb h=>by simp [h])⟩
  have hln:((CP++([rP.v])++([c5]))++([]:List Value)).length=37:=by rw [List.length_append,L6]; rfl
  have hon:∀ u∈((CP++([rP.v])++([c5]))++([]:List Value)),u.oneCell'=true:=PY hrp
  refine sA<|sS (.agg ((CP++([rP.v])++([c5]))++([]:List Value)).toArray) (Quiet.mid 2 g3 0 37 148 148 ((CP++([rP.v])++([c5]))++([]:List Value)) ((CP++([rP.v])++([c5]))++([]:List Value)) _ _ J kR J HH J kR (by rw [List.drop_zero,List.take_of_length_le om]) om)<|sw 1 J ((CP++([rP.v])++([c5]))++([]:List Value)).toArray (Writes.row 148 ((CP++([rP.v])++([c5]))++([]:List Value)) 37 _ _ J kR kR kR hln kZ hon)<|sG<|Sy.ret ?_
  exact Sy.retT1 (RB gr sl a5 e5 (R++(N2++(NlP++(rP.bl++(N5)))))) J (.inl (Sy.Res.cell (ty':=148) g2 1 ((CP++([rP.v])++([c5]))++([]:List Value)).toArray _ kZ J HH J (by rw [List.size_toArray,hln]; kernel_rfl) rfl)) (λ_ h=>Sy.St.parts (ls:=[[(gr,166,rrC sl a5 e5)],[(g2,148,((CP++([rP.v])++([c5]))++([]:List Value)).toArray)],[(g3,148,((CP++([rP.v])++([c5]))++([]:List Value)).toArray)],rP.bl,R,N2,NlP,N5]) (ms:=[[(gr,166,rrC sl a5 e5)],R,N2,NlP,rP.bl,N5]) [[(g2,148,((CP++([rP.v])++([c5]))++([]:List Value)).toArray)],[(g3,148,((CP++([rP.v])++([c5]))++([]:List Value)).toArray)]] [0,4,5,6,3,7,1,2] kZ (by rfl) (by simp) (by simp) h) ⟨_,a5,e5,N2++(NlP++(rP.bl++(N5))),hAf,⟨((CP++([rP.v])++([c5]))++([]:List Value)),rfl,hln,hon,hrp⟩,u5,v5_,rfl⟩
 obtain ⟨l1,l2⟩:i<nP∧elP=0:=of_decide_eq_true hb3.symm
 obtain ⟨ys,t1,t2,t3⟩:=y5P
 refine sT<|Sy.skip<|Sy.then_<|Sy.seq<|Sy.block<|Sy.regionD (λj=>j == 3 || j == 5 || j == 7) kR<|sb 0 J (pT g3 35)<|sa 2 J J<|Sy.joinG (T:=Byt×Nat×Nat×Nat×List Value×AA) (λy=>[(0,ptr gr),(2,ptr g2),(3,ptr g3),(4,.int .i64 (nP:Int)),(5,.int .i64 (i:Int)),(32,rP.v),(34,.agg y.2.2.2.2.1.toArray),(35,.slice (some ⟨y.2.2.2.1,0,none⟩) 1 1)]) (λy=>[(gr,166,rrC sl y.2.1 y.2.2.1),(g2,148,zePG.toArray),(g3,148,(CP++([rP.v]++([Value.slice none 0 0]++(([]:List Value))))).toArray),(y.2.2.2.1,37,y.2.2.2.2.1.toArray)]++(rP.bl++((R++N2)++(NlP++y.2.2.2.2.2)))) (λy=>After (A_ 32) ⟨b.drop alP,elP⟩ y.1 ⟨b.drop y.2.1,y.2.2.1⟩∧y.2.2.2.2.1.length=32∧(∀ u∈y.2.2.2.2.1,u.oneCell'=true)∧DC (rdB y.2.2.2.2.2) y.2.2.2.2.1 y.1∧y.2.1≤b.length∧y.2.2.1≤200) 3 #[true,true,true,true,true,false,false,false] (λy hy=>?_) (λk=>?_)
 case refine_2 =>
  refine Sy.anyOf [1,3] kZ dZ (Sy.each2 ?_ ?_)
  ·refine Sy.oneQuiet J kZ rP.v (Quiet.cell 2 g3 35 148 146 (CP++([rP.v]++([Value.slice none 0 0]++(([]:List Value))))).toArray _ _ J kR J Ck J _ (by rw [List.getElem?_toArray,List.getElem?_append_right (Nat.le_of_eq L4),L4]; rfl)) ?_
   refine Sy.soleD 3 J (λQ2 hq2=>?_)
   refine Sy.callT (λw hw=>EF w0.inn gr sl b alP elP ((g2,148,zePG.toArray)::(g3,148,(CP++([rP.v]++([Value.slice none 0 0]++(([]:List Value))))).toArray)::(rP.bl++((R++N2)++NlP))) ulP vlP hl hv w hw) (λu M hM=>?_)
   obtain ⟨x2',a4',e4',N5',s1,⟨rfl,t0,_⟩,s3,s4,rfl⟩:=hM
   obtain ⟨cx,hcx⟩:=xE (x2'.map bv)
   have t5:cx.length=32:=by rw [hcx,List.length_map,t0]
   have t6:∀ u∈cx,u.oneCell'=true:=by rw [hcx]; exact Bw _
   have t7:DC (rdB N5') cx x2':=⟨hcx,t0⟩
   rw [← hcx]
   refine Sy.permS (M:=[(gr,166,rrC sl a4' e4'),(g2,148,zePG.toArray),(g3,148,(CP++([rP.v]++([Value.slice none 0 0]++(([]:List Value))))).toArray)]++(rP.bl++((R++N2)++(NlP++N5')))) (List.Perm.of_eq (by simp only [List.append_assoc,List.cons_append,List.nil_append]))<|hq2 _ _<|Sy.makeD 4 J kR kR 37 cx.toArray (λg=>.slice (pA g) 1 1) (Makes.one 146 37 _ _ 32 _ cx J kR Ck EB J J t5 dZ dZ) (λg7=>?_)
   exact EW k (x2',a4',e4',g7,cx,N5') ⟨s1,t5,t6,t7,s3,s4⟩ rfl ac8 (Sy.mov_perm (pre:=[(gr,166,rrC sl a4' e4'),(g2,148,zePG.toArray),(g3,148,(CP++([rP.v]++([Value.slice none 0 0]++(([]:List Value))))).toArray)]) (T:=rP.bl++((R++N2)++(NlP++N5'))))
  ·refine RT J kZ J (λQ2 hq2=>?_)
   refine Sy.callT (λw hw=>EF w0.inn gr sl b alP elP ((g2,148,zePG.toArray)::(g3,148,(CP++([rP.v]++([Value.slice none 0 0]++(([]:List Value))))).toArray)::(rP.bl++((R++N2)++NlP))) ulP vlP hl hv w hw) (λu M hM=>?_)
   obtain ⟨x2',a4',e4',N5',s1,⟨rfl,t0,_⟩,s3,s4,rfl⟩:=hM
   obtain ⟨cx,hcx⟩:=xE (x2'.map bv)
   have t5:cx.length=32:=by rw [hcx,List.length_map,t0]
   have t6:∀ u∈cx,u.oneCell'=true:=by rw [hcx]; exact Bw _
   have t7:DC (rdB N5') cx x2':=⟨hcx,t0⟩
   rw [← hcx]
   refine Sy.permS (M:=[(gr,166,rrC sl a4' e4'),(g2,148,zePG.toArray),(g3,148,(CP++([rP.v]++([Value.slice none 0 0]++(([]:List Value))))).toArray)]++(rP.bl++((R++N2)++(NlP++N5')))) (List.Perm.of_eq (by simp only [List.append_assoc,List.cons_append,List.nil_append]))<|hq2 _ _<|Sy.anyOf [1,4] kZ dZ (Sy.each2 ?_ ?_)
   ·refine Sy.oneQuiet J kZ rP.v (Quiet.cell 2 g3 35 148 146 (CP++([rP.v]++([Value.slice none 0 0]++(([]:List Value))))).toArray _ _ J kR J Ck J _ (by rw [List.getElem?_toArray,List.getElem?_append_right (Nat.le_of_eq L4),L4]; rfl)) ?_
    refine Sy.makeD 4 J kR kR 37 cx.toArray (λg=>.slice (pA g) 1 1) (Makes.one 146 37 _ _ 32 _ cx J kR Ck EB J J t5 dZ dZ) (λg7=>?_)
    exact EW k (x2',a4',e4',g7,cx,N5') ⟨s1,t5,t6,t7,s3,s4⟩ rfl ac8 (Sy.mov_perm (pre:=[(gr,166,rrC sl a4' e4'),(g2,148,zePG.toArray),(g3,148,(CP++([rP.v]++([Value.slice none 0 0]++(([]:List Value))))).toArray)]) (T:=rP.bl++((R++N2)++(NlP++N5'))))
   ·refine Sy.oneMake J kZ 37 cx.toArray (λg=>.slice (pA g) 1 1) (Makes.one 146 37 _ _ 32 _ cx J kR Ck EB J J t5 dZ dZ) (λg7=>?_)
    refine Sy.anyOf [1] kZ dZ (Sy.each1 ?_)
    refine Sy.oneQuiet J kZ rP.v (Quiet.cell 2 g3 35 148 146 (CP++([rP.v]++([Value.slice none 0 0]++(([]:List Value))))).toArray _ _ J kR J Ck J _ (by rw [List.getElem?_toArray,List.getElem?_append_right (Nat.le_of_eq L4),L4]; rfl)) ?_
    exact EW k (x2',a4',e4',g7,cx,N5') ⟨s1,t5,t6,t7,s3,s4⟩ rfl ac8 (Sy.mov_perm (pre:=[(gr,166,rrC sl a4' e4'),(g2,148,zePG.toArray),(g3,148,(CP++([rP.v]++([Value.slice none 0 0]++(([]:List Value))))).toArray)]) (T:=rP.bl++((R++N2)++(NlP++N5'))))
 obtain ⟨z2,z4,w4,g7,cx,N6⟩:=y
 obtain ⟨s1,t5,t6,t7,s3,s4⟩:=hy
 dsimp only at s1 t5 t6 t7 s3 s4 ⊢
 refine Sy.soleD 5 J (λQ2 hq2=>?_)
 refine Sy.appendR (pre:=[(gr,166,rrC sl z4 w4),(g2,148,zePG.toArray),(g3,148,(CP++([rP.v]++([Value.slice none 0 0]++(([]:List Value))))).toArray),(g7,37,cx.toArray)]) (T:=(R++N2)++(NlP++N6)) kR 146 37 _ _ 32 32 Ck EB J J J J dZ _ _ J t1 kR cx t5 t6 3 g7 37 kR kR om (by simp only [maxLen]; omega) (λr' hr'=>?_)
 refine hq2 _ _<|sb 6 J (pT g3 35)<|sx 7 J 2 J (CP++([r'.v]++([Value.slice none 0 0]++(([]:List Value))))).toArray (Writes.one 35 146 r'.v _ _ J kR kR kR hr'.cells.1 hr'.cells.2 (by rw [List.size_toArray,List.length_append,L4]; exact Nat.lt_add_of_pos_right (Nat.succ_pos _)) (Aq L4))<|sE<|Sy.in_<|Sy.then_<|Sy.region<|sp J<|sS (iZ (i+1)) (qad J J J)<|sp J<|Sy.nil ?_
 have hrows:RowsOk 37 32 DC r' (NlP++N6) (xsP++[z2]):=RowsOk.add (rep:=DC) t2 (λj x hx=>by
  obtain ⟨c,d1,d2⟩:=t3 j x hx
  exact ⟨c,d1,Eo (Ac λb h=>List.mem_append_left _ h) d2⟩) hr' (Eo (Ac λb h=>List.mem_append_right _ h) t7)
 exact Sy.againT ⟨z4,w4,xsP++[z2],r',NlP++N6⟩ l1 ⟨y1.snoc s1,s3,s4,by show (xsP++[_]).length=_; rw [List.length_append,y4]; rfl,hrows⟩ ac5 (λw h=>Sy.St.parts (ls:=[[(gr,166,rrC sl z4 w4),(g2,148,zePG.toArray),(g3,148,(CP++([r'.v]++([Value.slice none 0 0]++(([]:List Value))))).toArray)],[(g7,37,cx.toArray)],r'.bl++((R++N2)++(NlP++N6))]) (ms:=[[(gr,166,rrC sl z4 w4),(g2,148,zePG.toArray),(g3,148,(CP++([r'.v]++([Value.slice none 0 0]++(([]:List Value))))).toArray)],r'.bl++((R++N2)++(NlP++N6))]) [[(g7,37,cx.toArray)]] [0,2,1] kZ (by rfl) (by simp) (by simp) h)
theorem After.off {α:Type} {p:Ps α} {s:RS} (y:α) (h:s.e≠0):After p s y s:=⟨λh=>h,λ_ _ h0 _=>(h h0).elim,λh0 _=>(h h0).elim⟩
theorem MJ {α:Type} (lo hi:Nat) (k:Int→Bool) (hk:∀ n:Nat,k (n:Int)=decide (lo≤n∧n≤hi)) (f:Int→Ps α):AJ (DN lo hi) f=AJ CY λz=>AJ (BJ (k z)) λ_=>f z:=by
 funext l
 cases h:Bj 1 l with
 | none =>
  have h1:DN lo hi l=none:=by unfold DN; exact bind_none h
  have h2:CY l=none:=by unfold CY; exact bind_none h
  rw [bind_none h1,bind_none h2]
 | some u =>
  obtain ⟨n,r⟩:=u
  have h2:CY l=some ((n:Int),r):=by unfold CY; rw [bind_some h]; rfl
  rw [bind_some h2,hk]
  cases hd:decide (lo≤n∧n≤hi) with
  | true =>
   have h1:DN lo hi l=some ((n:Int),r):=by
    unfold DN
    rw [bind_some h,hd]
    rfl
   rw [bind_some h1]
   rfl
  | false =>
   have h1:DN lo hi l=none:=by
    unfold DN
    rw [bind_some h,hd]
    rfl
   rw [bind_none h1]
   rfl
theorem S6 {α:Type} (f:Int→Ps α):AJ (DN 1 2) f=AJ CY λz=>AJ (BJ (Fx z)) λ_=>f z:=MJ 1 2 Fx (λn=>by
 unfold Fx
 by_cases h:1≤n∧n≤2
 ·rw [decide_eq_true h,decide_eq_true (show (1:Int)≤n by omega),decide_eq_true (show (n:Int)≤2 by omega)]; rfl
 ·rw [decide_eq_false h]
  by_cases h1:(1:Int)≤n
  ·rw [decide_eq_false (show ¬ (n:Int)≤2 by omega),Bool.and_false]
  ·rw [decide_eq_false h1,Bool.false_and]) f
def TO (z:Int):Bool:=decide (0≤z) && decide (z≤2)
theorem K8:AJ (DN 0 2) (λk=>if k=0 then BO zIS else Ke k)=Gq:=by
 rw [MJ 0 2 TO (λn=>by
  unfold TO
  rw [decide_eq_true (show (0:Int)≤n by omega),Bool.true_and]
  exact decide_eq_decide.2 om)]
 unfold Gq
 congr 1
 funext k
 by_cases h0:k=0
 ·rw [if_pos h0,if_pos h0,h0]; rfl
 ·rw [if_neg h0,if_neg h0]
  congr 2
  unfold TO
  by_cases hk:k=1∨k=2
  ·rw [decide_eq_true hk,decide_eq_true (show (0:Int)≤k by omega),decide_eq_true (show k≤2 by omega)]; rfl
  ·rw [decide_eq_false hk]
   by_cases h1:(0:Int)≤k
   ·rw [decide_eq_false (show ¬ k≤2 by omega),Bool.and_false]
   ·rw [decide_eq_false h1,Bool.false_and]
abbrev zeIS:List Value:=((([]:List Value))++([Value.int .i64 0]++(([Value.bool false]++([Value.int .u64 0]++lPT ⟨0,0,false⟩))++([Value.slice none 0 0]++([Value.int .u64 0]++(Z32++(Cu.fws 0++(([]:List Value)))))))))
theorem P4 (w0:Base) (gr:Nat) (sl:Value) (b:Byt) (at_ e:Nat) (R:AA) (hat:at_≤b.length) (he:e≤200) (hl:b.length≤70368744177664) (hv:BytR (rdW w0.world) sl b) (w:World) (hw:St w0 w (RB gr sl at_ e R)) :
  AL 128 #[ptr gr] w (AQ w0 (Rfd Gq (J6 50 D4) gr sl b R at_ e)):=by
 have L0:([]:List Value).length=0:=rfl
 refine Sy.enterT (args:=[ptr gr]) hw Tryz.func128 J kL<|sC<|sM 145 zeIS.toArray (λg2=>?_)
 refine Sy.movT (pre:=[(gr,166,rrC sl at_ e)]) (T:=R)<|sA<|sM 145 ((([]:List Value))++([Value.int .i64 0]++(([Value.bool false]++([Value.int .u64 0]++lPT ⟨0,0,false⟩))++([Value.slice none 0 0]++([Value.int .u64 0]++(Z32++(Cu.fws 0++(([]:List Value))))))))).toArray (λg3=>?_)
 refine Sy.movT (pre:=[(gr,166,rrC sl at_ e),(g2,145,zeIS.toArray)]) (T:=R)<|sA<|sp J<|Sy.callT (λw hw=>DY 0 2 w0.inn gr sl b at_ e ((g2,145,zeIS.toArray)::(g3,145,((([]:List Value))++([Value.int .i64 0]++(([Value.bool false]++([Value.int .u64 0]++lPT ⟨0,0,false⟩))++([Value.slice none 0 0]++([Value.int .u64 0]++(Z32++(Cu.fws 0++(([]:List Value))))))))).toArray)::R) hat he hl hv w hw) (λu M hM=>?_)
 obtain ⟨x1,a1,e1,N1,p1,⟨rfl,rfl⟩,u1,v1_,rfl⟩:=hM
 rw [List.append_nil ((g2,145,zeIS.toArray)::(g3,145,((([]:List Value))++([Value.int .i64 0]++(([Value.bool false]++([Value.int .u64 0]++lPT ⟨0,0,false⟩))++([Value.slice none 0 0]++([Value.int .u64 0]++(Z32++(Cu.fws 0++(([]:List Value))))))))).toArray)::R)]
 refine sP (pT g3 0)<|sw 2 J ((([]:List Value)++([Value.int .i64 x1]))++(([Value.bool false]++([Value.int .u64 0]++lPT ⟨0,0,false⟩))++([Value.slice none 0 0]++([Value.int .u64 0]++(Z32++(Cu.fws 0++(([]:List Value)))))))).toArray (by rw [show ((([]:List Value)++([Value.int .i64 x1]))++(([Value.bool false]++([Value.int .u64 0]++lPT ⟨0,0,false⟩))++([Value.slice none 0 0]++([Value.int .u64 0]++(Z32++(Cu.fws 0++(([]:List Value))))))))=(([]:List Value))++([Value.int .i64 x1]++(([Value.bool false]++([Value.int .u64 0]++lPT ⟨0,0,false⟩))++([Value.slice none 0 0]++([Value.int .u64 0]++(Z32++(Cu.fws 0++(([]:List Value)))))))) from List.append_assoc ..]; exact Writes.one 0 3 (.int .i64 x1) _ _ J kR kR kR J J (by rw [List.size_toArray,List.length_append,L0]; exact Nat.lt_add_of_pos_right (Nat.succ_pos _)) (Aq L0)) ?_
 have L1:(([]:List Value)++([Value.int .i64 x1])).length=1:=by rw [List.length_append,L0]; rfl
 have hr1:∀ z:Int,D4 (rdB []) ((([]:List Value)++([Value.int .i64 z]))++(([Value.bool false]++([Value.int .u64 0]++lPT ⟨0,0,false⟩))++([Value.slice none 0 0]++([Value.int .u64 0]++(Z32++(Cu.fws 0++(([]:List Value)))))))) ⟨z,zAM,[],0,z32,0⟩:=λz=>⟨_,rfl,Ix,BytR.nil _,(show (0:Nat)<18446744073709551616 by decide),rfl,(show 0<Cu.K4 by decide)⟩
 refine sG<|Sy.seq<|sC ?_
 by_cases h0:x1=0
 ·subst h0
  refine sP (pT g3 0)<|sS (.int .i64 0) (Quiet.cell 2 g3 0 145 3 ((([]:List Value)++([Value.int .i64 0]))++(([Value.bool false]++([Value.int .u64 0]++lPT ⟨0,0,false⟩))++([Value.slice none 0 0]++([Value.int .u64 0]++(Z32++(Cu.fws 0++(([]:List Value)))))))).toArray _ _ J kR J uy3 J _ J)<|sP (.bool true)<|sp J<|sN<|sN<|sN<|sP (.bool true)<|sG<|sT<|sC<|sS (.agg ((([]:List Value)++([Value.int .i64 0]))++(([Value.bool false]++([Value.int .u64 0]++lPT ⟨0,0,false⟩))++([Value.slice none 0 0]++([Value.int .u64 0]++(Z32++(Cu.fws 0++(([]:List Value)))))))).toArray) (Quiet.mid 2 g3 0 50 145 145 ((([]:List Value)++([Value.int .i64 0]))++(([Value.bool false]++([Value.int .u64 0]++lPT ⟨0,0,false⟩))++([Value.slice none 0 0]++([Value.int .u64 0]++(Z32++(Cu.fws 0++(([]:List Value)))))))) ((([]:List Value)++([Value.int .i64 0]))++(([Value.bool false]++([Value.int .u64 0]++lPT ⟨0,0,false⟩))++([Value.slice none 0 0]++([Value.int .u64 0]++(Z32++(Cu.fws 0++(([]:List Value)))))))) _ _ J kR J E9 J kR (by rw [List.drop_zero,List.take_of_length_le (Nat.le_refl 50)]) (Nat.le_refl 50))<|sw 1 J ((([]:List Value)++([Value.int .i64 0]))++(([Value.bool false]++([Value.int .u64 0]++lPT ⟨0,0,false⟩))++([Value.slice none 0 0]++([Value.int .u64 0]++(Z32++(Cu.fws 0++(([]:List Value)))))))).toArray (Writes.row 145 ((([]:List Value)++([Value.int .i64 0]))++(([Value.bool false]++([Value.int .u64 0]++lPT ⟨0,0,false⟩))++([Value.slice none 0 0]++([Value.int .u64 0]++(Z32++(Cu.fws 0++(([]:List Value)))))))) 50 _ _ J kR kR kR J kZ (Fv (hr1 0)))<|sG<|Sy.ret<|Sy.then_ret ?_
  exact Sy.retT1 (RB gr sl a1 e1 (R++[])) J (.inl (Sy.Res.cell (ty':=145) g2 1 ((([]:List Value)++([Value.int .i64 0]))++(([Value.bool false]++([Value.int .u64 0]++lPT ⟨0,0,false⟩))++([Value.slice none 0 0]++([Value.int .u64 0]++(Z32++(Cu.fws 0++(([]:List Value)))))))).toArray _ kZ J E9 J kR J)) (λ_ h=>by rw [List.append_nil]; exact h.less (((List.Sublist.refl R).cons _ |>.cons _).cons_cons _)) ⟨⟨0,zAM,[],0,z32,0⟩,a1,e1,[],(by rw [← K8]; exact p1.bind (by rw [if_pos J]; exact After.ret _ _)),⟨((([]:List Value)++([Value.int .i64 0]))++(([Value.bool false]++([Value.int .u64 0]++lPT ⟨0,0,false⟩))++([Value.slice none 0 0]++([Value.int .u64 0]++(Z32++(Cu.fws 0++(([]:List Value)))))))),rfl,rfl,Fv (hr1 0),hr1 0⟩,u1,v1_,rfl⟩
 obtain ⟨bk,hbk⟩:=xE (decide (e1=0))
 refine sP (pT g3 0)<|sS (.int .i64 x1) (Quiet.cell 2 g3 0 145 3 ((([]:List Value)++([Value.int .i64 x1]))++(([Value.bool false]++([Value.int .u64 0]++lPT ⟨0,0,false⟩))++([Value.slice none 0 0]++([Value.int .u64 0]++(Z32++(Cu.fws 0++(([]:List Value)))))))).toArray _ _ J kR J uy3 J _ J)<|sS (.bool false) (Quiet.pure (AD .eql _ _ _ .i64 _ _ _ J J J (Ab _ _ _ _ _ (decide_eq_false h0))))<|sp J<|sp J<|sS (.bool bk) (qg (λw hw=>by rw [hbk]; exact Fw w0.inn gr sl a1 e1 (List.mem_cons_self ..) w hw))<|sP (.bool (!bk))<|sP (.bool (!bk))<|sG ?_
 cases bk
 case' false =>
  refine sT<|sC<|sS (.agg ((([]:List Value)++([Value.int .i64 x1]))++(([Value.bool false]++([Value.int .u64 0]++lPT ⟨0,0,false⟩))++([Value.slice none 0 0]++([Value.int .u64 0]++(Z32++(Cu.fws 0++(([]:List Value)))))))).toArray) (Quiet.mid 2 g3 0 50 145 145 ((([]:List Value)++([Value.int .i64 x1]))++(([Value.bool false]++([Value.int .u64 0]++lPT ⟨0,0,false⟩))++([Value.slice none 0 0]++([Value.int .u64 0]++(Z32++(Cu.fws 0++(([]:List Value)))))))) ((([]:List Value)++([Value.int .i64 x1]))++(([Value.bool false]++([Value.int .u64 0]++lPT ⟨0,0,false⟩))++([Value.slice none 0 0]++([Value.int .u64 0]++(Z32++(Cu.fws 0++(([]:List Value)))))))) _ _ J kR J E9 J kR (by rw [List.drop_zero,List.take_of_length_le (Nat.le_refl 50)]) (Nat.le_refl 50))<|sw 1 J ((([]:List Value)++([Value.int .i64 x1]))++(([Value.bool false]++([Value.int .u64 0]++lPT ⟨0,0,false⟩))++([Value.slice none 0 0]++([Value.int .u64 0]++(Z32++(Cu.fws 0++(([]:List Value)))))))).toArray (Writes.row 145 ((([]:List Value)++([Value.int .i64 x1]))++(([Value.bool false]++([Value.int .u64 0]++lPT ⟨0,0,false⟩))++([Value.slice none 0 0]++([Value.int .u64 0]++(Z32++(Cu.fws 0++(([]:List Value)))))))) 50 _ _ J kR kR kR J kZ (Fv (hr1 x1)))<|sG<|Sy.ret<|Sy.then_ret ?_
  exact Sy.retT1 (RB gr sl a1 e1 (R++[])) J (.inl (Sy.Res.cell (ty':=145) g2 1 ((([]:List Value)++([Value.int .i64 x1]))++(([Value.bool false]++([Value.int .u64 0]++lPT ⟨0,0,false⟩))++([Value.slice none 0 0]++([Value.int .u64 0]++(Z32++(Cu.fws 0++(([]:List Value)))))))).toArray _ kZ J E9 J kR J)) (λ_ h=>by rw [List.append_nil]; exact h.less (((List.Sublist.refl R).cons _ |>.cons _).cons_cons _)) ⟨⟨x1,zAM,[],0,z32,0⟩,a1,e1,[],(by rw [← K8]; exact p1.bind (After.off _ (of_decide_eq_false hbk.symm))),⟨((([]:List Value)++([Value.int .i64 x1]))++(([Value.bool false]++([Value.int .u64 0]++lPT ⟨0,0,false⟩))++([Value.slice none 0 0]++([Value.int .u64 0]++(Z32++(Cu.fws 0++(([]:List Value)))))))),rfl,rfl,Fv (hr1 x1),hr1 x1⟩,u1,v1_,rfl⟩
 refine sU<|Sy.skip<|Sy.then_<|sC<|sp J<|Sy.callT (λw hw=>Gn w0.inn gr sl b a1 e1 ((g2,145,zeIS.toArray)::(g3,145,((([]:List Value)++([Value.int .i64 x1]))++(([Value.bool false]++([Value.int .u64 0]++lPT ⟨0,0,false⟩))++([Value.slice none 0 0]++([Value.int .u64 0]++(Z32++(Cu.fws 0++(([]:List Value)))))))).toArray)::R) u1 v1_ hl hv w hw) (λu M hM=>?_)
 obtain ⟨x2,a2,e2,N2,p2,⟨cs2,rfl,n2,o2,rfl,b2⟩,u2,v2_,rfl⟩:=hM
 refine Sy.permS (M:=RB gr sl a2 e2 ((g2,145,zeIS.toArray)::(g3,145,((([]:List Value)++([Value.int .i64 x1]))++(([Value.bool false]++([Value.int .u64 0]++lPT ⟨0,0,false⟩))++([Value.slice none 0 0]++([Value.int .u64 0]++(Z32++(Cu.fws 0++(([]:List Value)))))))).toArray)::(R++N2))) (List.Perm.of_eq (by simp only [List.cons_append,List.append_assoc]))<|sP (pT g3 1)<|sw 2 J ((([]:List Value)++([Value.int .i64 x1])++(cAM x2))++([Value.slice none 0 0]++([Value.int .u64 0]++(Z32++(Cu.fws 0++(([]:List Value))))))).toArray (by rw [show ((([]:List Value)++([Value.int .i64 x1])++(cAM x2))++([Value.slice none 0 0]++([Value.int .u64 0]++(Z32++(Cu.fws 0++(([]:List Value)))))))=(([]:List Value)++([Value.int .i64 x1]))++(cAM x2++([Value.slice none 0 0]++([Value.int .u64 0]++(Z32++(Cu.fws 0++(([]:List Value))))))) from List.append_assoc ..]; exact wM 61 (([]:List Value)++([Value.int .i64 x1])) ([Value.bool false]++([Value.int .u64 0]++lPT ⟨0,0,false⟩)) (cAM x2) ([Value.slice none 0 0]++([Value.int .u64 0]++(Z32++(Cu.fws 0++(([]:List Value)))))) 11 1 _ _ J kR kR kR L1 J n2 o2) ?_
 have L2:(([]:List Value)++([Value.int .i64 x1])++(cAM x2)).length=12:=by rw [List.length_append,L1,n2]
 refine sA<|sp J<|Sy.callT (λw hw=>CV 6000 dZ w0.inn gr sl b a2 e2 ((g2,145,zeIS.toArray)::(g3,145,((([]:List Value)++([Value.int .i64 x1])++(cAM x2))++([Value.slice none 0 0]++([Value.int .u64 0]++(Z32++(Cu.fws 0++(([]:List Value))))))).toArray)::(R++N2)) u2 v2_ hl hv w hw) (λc3 M hM=>?_)
 obtain ⟨x3,a3,e3,N3,p3,r3,u3,v3_,rfl⟩:=hM
 refine Sy.permS (M:=RB gr sl a3 e3 ((g2,145,zeIS.toArray)::(g3,145,((([]:List Value)++([Value.int .i64 x1])++(cAM x2))++([Value.slice none 0 0]++([Value.int .u64 0]++(Z32++(Cu.fws 0++(([]:List Value))))))).toArray)::((R++N2)++N3))) (List.Perm.of_eq (by simp only [List.cons_append,List.append_assoc])) ?_
 have hc3:=r3.byt.cells
 refine sP (pT g3 12)<|sw 2 J ((([]:List Value)++([Value.int .i64 x1])++(cAM x2)++([c3]))++([Value.int .u64 0]++(Z32++(Cu.fws 0++(([]:List Value)))))).toArray (by rw [show ((([]:List Value)++([Value.int .i64 x1])++(cAM x2)++([c3]))++([Value.int .u64 0]++(Z32++(Cu.fws 0++(([]:List Value))))))=(([]:List Value)++([Value.int .i64 x1])++(cAM x2))++([c3]++([Value.int .u64 0]++(Z32++(Cu.fws 0++(([]:List Value)))))) from List.append_assoc ..]; exact Writes.one 12 27 c3 _ _ J kR kR kR hc3.1 hc3.2 (by rw [List.size_toArray,List.length_append,L2]; exact Nat.lt_add_of_pos_right (Nat.succ_pos _)) (Aq L2)) ?_
 have L3:(([]:List Value)++([Value.int .i64 x1])++(cAM x2)++([c3])).length=13:=by rw [List.length_append,L2]; rfl
 refine sA<|sp J<|Sy.callT (λw hw=>Ht w0.inn gr sl b a3 e3 8 ((g2,145,zeIS.toArray)::(g3,145,((([]:List Value)++([Value.int .i64 x1])++(cAM x2)++([c3]))++([Value.int .u64 0]++(Z32++(Cu.fws 0++(([]:List Value)))))).toArray)::((R++N2)++N3)) u3 v3_ dZ hl hv w hw) (λu M hM=>?_)
 obtain ⟨x4,a4,e4,N4,p4,⟨rfl,r4,rfl⟩,u4,v4_,rfl⟩:=hM
 rw [List.append_nil ((g2,145,zeIS.toArray)::(g3,145,((([]:List Value)++([Value.int .i64 x1])++(cAM x2)++([c3]))++([Value.int .u64 0]++(Z32++(Cu.fws 0++(([]:List Value)))))).toArray)::((R++N2)++N3))]
 refine sP (pT g3 13)<|sw 2 J ((([]:List Value)++([Value.int .i64 x1])++(cAM x2)++([c3])++([Value.int .u64 (x4:Int)]))++(Z32++(Cu.fws 0++(([]:List Value))))).toArray (by rw [show ((([]:List Value)++([Value.int .i64 x1])++(cAM x2)++([c3])++([Value.int .u64 (x4:Int)]))++(Z32++(Cu.fws 0++(([]:List Value)))))=(([]:List Value)++([Value.int .i64 x1])++(cAM x2)++([c3]))++([Value.int .u64 (x4:Int)]++(Z32++(Cu.fws 0++(([]:List Value))))) from List.append_assoc ..]; exact Writes.one 13 22 (uZ (x4:Int)) _ _ J kR kR kR J J (by rw [List.size_toArray,List.length_append,L3]; exact Nat.lt_add_of_pos_right (Nat.succ_pos _)) (Aq L3)) ?_
 have L4:(([]:List Value)++([Value.int .i64 x1])++(cAM x2)++([c3])++([Value.int .u64 (x4:Int)])).length=14:=by rw [List.length_append,L3]; rfl
 refine sA<|sp J<|Sy.callT (λw hw=>EF w0.inn gr sl b a4 e4 ((g2,145,zeIS.toArray)::(g3,145,((([]:List Value)++([Value.int .i64 x1])++(cAM x2)++([c3])++([Value.int .u64 (x4:Int)]))++(Z32++(Cu.fws 0++(([]:List Value))))).toArray)::((R++N2)++N3)) u4 v4_ hl hv w hw) (λu M hM=>?_)
 obtain ⟨x5,a5,e5,N5,p5,⟨rfl,r5,rfl⟩,u5,v5_,rfl⟩:=hM
 rw [List.append_nil ((g2,145,zeIS.toArray)::(g3,145,((([]:List Value)++([Value.int .i64 x1])++(cAM x2)++([c3])++([Value.int .u64 (x4:Int)]))++(Z32++(Cu.fws 0++(([]:List Value))))).toArray)::((R++N2)++N3))]
 have n5:(x5.map bv).length=32:=by rw [List.length_map,r5]
 refine sP (pT g3 14)<|sw 2 J ((([]:List Value)++([Value.int .i64 x1])++(cAM x2)++([c3])++([Value.int .u64 (x4:Int)])++(x5.map bv))++(Cu.fws 0++(([]:List Value)))).toArray (by rw [show ((([]:List Value)++([Value.int .i64 x1])++(cAM x2)++([c3])++([Value.int .u64 (x4:Int)])++(x5.map bv))++(Cu.fws 0++(([]:List Value))))=(([]:List Value)++([Value.int .i64 x1])++(cAM x2)++([c3])++([Value.int .u64 (x4:Int)]))++(x5.map bv++(Cu.fws 0++(([]:List Value)))) from List.append_assoc ..]; exact wM 37 (([]:List Value)++([Value.int .i64 x1])++(cAM x2)++([c3])++([Value.int .u64 (x4:Int)])) Z32 (x5.map bv) (Cu.fws 0++(([]:List Value))) 32 14 _ _ J kR kR kR L4 DS n5 (Bw x5)) ?_
 have L5:(([]:List Value)++([Value.int .i64 x1])++(cAM x2)++([c3])++([Value.int .u64 (x4:Int)])++(x5.map bv)).length=46:=by rw [List.length_append,L4,n5]
 refine sA<|sp J<|Sy.callT (λw hw=>D6 w0.inn gr sl b a5 e5 32 ((g2,145,zeIS.toArray)::(g3,145,((([]:List Value)++([Value.int .i64 x1])++(cAM x2)++([c3])++([Value.int .u64 (x4:Int)])++(x5.map bv))++(Cu.fws 0++(([]:List Value)))).toArray)::((R++N2)++N3)) u5 v5_ dZ hl hv w hw) (λu M hM=>?_)
 obtain ⟨x6,a6,e6,N6,p6,⟨w1,w2⟩,u6,v6_,rfl⟩:=hM
 refine Sy.permS (M:=RB gr sl a6 e6 ((g2,145,zeIS.toArray)::(g3,145,((([]:List Value)++([Value.int .i64 x1])++(cAM x2)++([c3])++([Value.int .u64 (x4:Int)])++(x5.map bv))++(Cu.fws 0++(([]:List Value)))).toArray)::(((R++N2)++N3)++N6))) (List.Perm.of_eq (by simp only [List.cons_append,List.append_assoc])) ?_
 obtain ⟨A7,n7,c7,rfl,m1,m2,m3,m4⟩:=w1.byt
 obtain rfl:n7=32:=om
 obtain ⟨gs,os,rfl,hq⟩:=m4 (by intro e; rw [e] at w2; cases w2)
 obtain ⟨m,hm⟩:=xE ((Sc.readS x6).1)
 obtain ⟨ok,hok⟩:=xE ((Sc.readS x6).2)
 have hmK:m<Cu.K4:=by
  rw [hm]
  unfold Sc.readS
  split
  ·exact Bo x6 w2
  ·show 0<Cu.K4; decide
 refine sS (.tuple #[fv m,.bool ok]) (qg (λw' hw=>by
  have hf:=B_ hw (R:=N6) (λy hy=>by simp [hy])
  rw [hm,hok]
  exact Cu.rdR_off w' gs os c7 x6 w2 (hf _ _ _ (hq 0 _ (List.getElem?_eq_getElem om))).1 (λj u hj=>(hf _ _ _ (hq j u hj)).2) om (by simp only [maxLen] at m3; omega)))<|sp J<|sp J<|sp J ?_
 refine sM 143 (Cu.fws 0).toArray (λg4=>?_)
 refine Sy.permS (M:=RB gr sl a6 e6 ((g4,143,(Cu.fws 0).toArray)::(g2,145,zeIS.toArray)::(g3,145,((([]:List Value)++([Value.int .i64 x1])++(cAM x2)++([c3])++([Value.int .u64 (x4:Int)])++(x5.map bv))++(Cu.fws 0++(([]:List Value)))).toArray)::(((R++N2)++N3)++N6))) (List.Perm.cons _ (List.perm_append_comm (l₁:=(g2,145,zeIS.toArray)::(g3,145,((([]:List Value)++([Value.int .i64 x1])++(cAM x2)++([c3])++([Value.int .u64 (x4:Int)])++(x5.map bv))++(Cu.fws 0++(([]:List Value)))).toArray)::(((R++N2)++N3)++N6)) (l₂:=[_])))<|sw 1 J (Cu.fws m).toArray (Writes.row 143 (Cu.fws m) 4 _ _ J kR kR kR J kZ (F5 m))<|sp J ?_
 obtain ⟨e7,he7⟩:=xE (if ok=true then e6 else if e6=0 then 120 else e6)
 have pS:After Nd ⟨b.drop a5,e5⟩ m ⟨b.drop a6,e7⟩:=p6.bind (by
  rw [← hm, ← hok]
  cases ok
  ·exact After.mustN m (by show e7≠0; rw [he7,if_neg dZ]; split <;> omega)
  ·rw [he7,if_pos J]
   exact After.ret m _)
 have v7_:e7≤200:=by rw [he7]; split; exact v6_; split <;> omega
 refine sG<|Sy.seq<|De [(0,ptr gr),(2,ptr g2),(3,ptr g3),(4,ptr g4)] (RB gr sl a6 e7 ((g4,143,(Cu.fws m).toArray)::(g2,145,zeIS.toArray)::(g3,145,((([]:List Value)++([Value.int .i64 x1])++(cAM x2)++([c3])++([Value.int .u64 (x4:Int)])++(x5.map bv))++(Cu.fws 0++(([]:List Value)))).toArray)::(((R++N2)++N3)++N6))) ?_ ?_
 ·refine sC ?_
  refine sp J<|sP (.bool (!ok))<|sG ?_
  cases ok
  ·refine sT<|Sy.region ?_
   refine sp J<|Sy.callT (λw hw=>E4 w0.inn gr sl a6 e6 ((g4,143,(Cu.fws m).toArray)::(g2,145,zeIS.toArray)::(g3,145,((([]:List Value)++([Value.int .i64 x1])++(cAM x2)++([c3])++([Value.int .u64 (x4:Int)])++(x5.map bv))++(Cu.fws 0++(([]:List Value)))).toArray)::(((R++N2)++N3)++N6)) w hw) (λu M hM=>?_)
   subst hM
   refine Sy.nil ?_
   have e9:e7=if e6=0 then 120 else e6:=by rw [he7,if_neg dZ]
   rw [e9]
   exact BK ac4 (λ_ h=>h)
  ·refine sU<|Sy.skip ?_
   have e9:e7=e6:=by rw [he7,if_pos J]
   rw [e9]
   exact BK ac4 (λ_ h=>h)
 refine sB<|sS (.agg (Cu.fws m).toArray) (Quiet.mid 1 g4 0 4 143 143 (Cu.fws m) (Cu.fws m) _ _ J kR J Bh J kR J (Nat.le_refl 4))<|sP (pT g3 46)<|sw 3 J ((([]:List Value)++([Value.int .i64 x1])++(cAM x2)++([c3])++([Value.int .u64 (x4:Int)])++(x5.map bv)++(Cu.fws m))++([]:List Value)).toArray (by rw [show ((([]:List Value)++([Value.int .i64 x1])++(cAM x2)++([c3])++([Value.int .u64 (x4:Int)])++(x5.map bv)++(Cu.fws m))++([]:List Value))=(([]:List Value)++([Value.int .i64 x1])++(cAM x2)++([c3])++([Value.int .u64 (x4:Int)])++(x5.map bv))++(Cu.fws m++(([]:List Value))) from List.append_assoc ..]; exact wM 143 ((([]:List Value)++([Value.int .i64 x1])++(cAM x2)++([c3])++([Value.int .u64 (x4:Int)])++(x5.map bv))) (Cu.fws 0) (Cu.fws m) (([]:List Value)) 4 46 _ _ J kR kR kR L5 J J (F5 m)) ?_
 have L6:(([]:List Value)++([Value.int .i64 x1])++(cAM x2)++([c3])++([Value.int .u64 (x4:Int)])++(x5.map bv)++(Cu.fws m)).length=50:=by rw [List.length_append,L5]; rfl
 have hAf:After Gq ⟨b.drop at_,e⟩ ⟨x1,x2,x3,x4,x5,m⟩ ⟨b.drop a6,e7⟩:=by rw [← K8]; exact p1.bind (by rw [if_neg h0]; exact p2.bind (p3.bind (p4.bind (p5.bind (pS.bind (After.ret _ _))))))
 have hrp:D4 (rdB (N2++(N3++N6))) ((([]:List Value)++([Value.int .i64 x1])++(cAM x2)++([c3])++([Value.int .u64 (x4:Int)])++(x5.map bv)++(Cu.fws m))++([]:List Value)) ⟨x1,x2,x3,x4,x5,m⟩:=⟨c3,by simp only [cIS,List.append_assoc,List.append_nil,List.nil_append],b2,r3.byt.le (Ac λb h=>by simp [h]),r4,r5,hmK⟩
 have hln:((([]:List Value)++([Value.int .i64 x1])++(cAM x2)++([c3])++([Value.int .u64 (x4:Int)])++(x5.map bv)++(Cu.fws m))++([]:List Value)).length=50:=by rw [List.length_append,L6]; rfl
 have hon:∀ u∈((([]:List Value)++([Value.int .i64 x1])++(cAM x2)++([c3])++([Value.int .u64 (x4:Int)])++(x5.map bv)++(Cu.fws m))++([]:List Value)),u.oneCell'=true:=Fv hrp
 refine sA<|sS (.agg ((([]:List Value)++([Value.int .i64 x1])++(cAM x2)++([c3])++([Value.int .u64 (x4:Int)])++(x5.map bv)++(Cu.fws m))++([]:List Value)).toArray) (Quiet.mid 3 g3 0 50 145 145 ((([]:List Value)++([Value.int .i64 x1])++(cAM x2)++([c3])++([Value.int .u64 (x4:Int)])++(x5.map bv)++(Cu.fws m))++([]:List Value)) ((([]:List Value)++([Value.int .i64 x1])++(cAM x2)++([c3])++([Value.int .u64 (x4:Int)])++(x5.map bv)++(Cu.fws m))++([]:List Value)) _ _ J kR J E9 J kR (by rw [List.drop_zero,List.take_of_length_le om]) om)<|sw 2 J ((([]:List Value)++([Value.int .i64 x1])++(cAM x2)++([c3])++([Value.int .u64 (x4:Int)])++(x5.map bv)++(Cu.fws m))++([]:List Value)).toArray (Writes.row 145 ((([]:List Value)++([Value.int .i64 x1])++(cAM x2)++([c3])++([Value.int .u64 (x4:Int)])++(x5.map bv)++(Cu.fws m))++([]:List Value)) 50 _ _ J kR kR kR hln kZ hon)<|sG<|Sy.ret ?_
 exact Sy.retT1 (RB gr sl a6 e7 (R++(N2++(N3++N6)))) J (.inl (Sy.Res.cell (ty':=145) g2 2 ((([]:List Value)++([Value.int .i64 x1])++(cAM x2)++([c3])++([Value.int .u64 (x4:Int)])++(x5.map bv)++(Cu.fws m))++([]:List Value)).toArray _ kZ J E9 J (by rw [List.size_toArray,hln]; kernel_rfl) rfl)) (λ_ h=>Sy.St.parts (ls:=[[(gr,166,rrC sl a6 e7)],[(g4,143,(Cu.fws m).toArray)],[(g2,145,((([]:List Value)++([Value.int .i64 x1])++(cAM x2)++([c3])++([Value.int .u64 (x4:Int)])++(x5.map bv)++(Cu.fws m))++([]:List Value)).toArray)],[(g3,145,((([]:List Value)++([Value.int .i64 x1])++(cAM x2)++([c3])++([Value.int .u64 (x4:Int)])++(x5.map bv)++(Cu.fws m))++([]:List Value)).toArray)],R,N2,N3,N6]) (ms:=[[(gr,166,rrC sl a6 e7)],R,N2,N3,N6]) [[(g4,143,(Cu.fws m).toArray)],[(g2,145,((([]:List Value)++([Value.int .i64 x1])++(cAM x2)++([c3])++([Value.int .u64 (x4:Int)])++(x5.map bv)++(Cu.fws m))++([]:List Value)).toArray)],[(g3,145,((([]:List Value)++([Value.int .i64 x1])++(cAM x2)++([c3])++([Value.int .u64 (x4:Int)])++(x5.map bv)++(Cu.fws m))++([]:List Value)).toArray)]] [0,4,5,6,7,1,2,3] kZ (by rfl) (by simp) (by simp) h) ⟨_,a6,e7,N2++(N3++N6),hAf,⟨((([]:List Value)++([Value.int .i64 x1])++(cAM x2)++([c3])++([Value.int .u64 (x4:Int)])++(x5.map bv)++(Cu.fws m))++([]:List Value)),rfl,hln,hon,hrp⟩,u6,v7_,rfl⟩
end Wr
end
end Go.Proofs.YtdbcombmmnihbaaGreat
