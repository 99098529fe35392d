import Derived.Test.YtgemfpnlnipfnabGreatDoorQVShaSpec
import Derived.StillTailTactics
import Derived.BigRegion
import Derived.Deep.DeepCutAuto
import Derived.Deep.MidRow
set_option linter.unusedVariables false
set_option linter.unusedSimpArgs false
namespace Go.Proofs.YtgemfpnlnipfnabGreatDoor
section
namespace Sh
open Go.RowKit Sp
def BV (s:S8) (l:List UInt8) (n:Nat):List Value :=
 [wv s.a,wv s.b,wv s.c,wv s.d,wv s.e,wv s.f,wv s.g,wv s.h]++(l.map bv++[.int .i64 (n:Int)])
theorem Ej (s:S8) (l:List UInt8) (n:Nat) (hl:l.length=64):(BV s l n).length=73:=by simp [BV,hl]
theorem Ea (s:S8) (l:List UInt8) (n:Nat) (hl:l.length=64) (i:Nat) (hi:i<64):(BV s l n).toArray[8+i]? = some (.int .u8 (bt l i:Int)):=by
 have h:i<l.length:=by omega
 simp [BV,Nat.add_comm 8 i,List.getElem?_append,h,bv,bt]
theorem Ih (l:List UInt8) (i:Nat):bt l i≤255:=by unfold bt; have:=(l.getD i 0).toNat_lt; omega
theorem Hx (l:List UInt8) (k:Nat):(Cg l k).length=k:=by simp [Cg]
theorem JG (l:List UInt8) (k:Nat) (_h:k<16):Cg l (k+1)=Cg l k++[word l k]:=by simp [Cg,List.range_succ]
theorem or4 (a b c d:Nat) (ha:a≤255) (hb:b≤255) (hc:c≤255) (hd:d≤255) :
  bits .or .u32 (bits .or .u32 (bits .or .u32 ((a:Int)*16777216) ((b:Int)*65536)) ((c:Int)*256)) (d:Int)=((BitVec.ofNat 32 (a*16777216+b*65536+c*256+d)).toNat:Int):=by
 have e1:(a:Int)*16777216=((a*16777216:Nat):Int):=by omega
 have e2:(b:Int)*65536=((b*65536:Nat):Int):=by omega
 have e3:(c:Int)*256=((c*256:Nat):Int):=by omega
 have o1:a*16777216 ||| b*65536=a*16777216+b*65536:=by
  have:=Nat.two_pow_add_eq_or_of_lt (i:=24) (b:=b*65536) (by omega) a
  rw [show a*16777216=2 ^ 24*a from by omega]; exact this.symm
 have o2:(a*16777216+b*65536) ||| c*256=a*16777216+b*65536+c*256:=by
  have:=Nat.two_pow_add_eq_or_of_lt (i:=16) (b:=c*256) (by omega) (a*256+b)
  rw [show a*16777216+b*65536=2 ^ 16*(a*256+b) from by omega]; exact this.symm
 have o3:(a*16777216+b*65536+c*256) ||| d=a*16777216+b*65536+c*256+d:=by
  have:=Nat.two_pow_add_eq_or_of_lt (i:=8) (b:=d) (by omega) (a*65536+b*256+c)
  rw [show a*16777216+b*65536+c*256=2 ^ 8*(a*65536+b*256+c) from by omega]; exact this.symm
 rw [e1,e2,e3,u32_or_nat _ _ (by omega) (by omega),o1,u32_or_nat _ _ (by omega) (by omega),o2,u32_or_nat _ _ (by omega) (by omega),o3,BitVec.toNat_ofNat]
 omega
theorem C_ (l:List UInt8) (k:Nat):(B8 l k).length=16+k:=by
 induction k with
 | zero=>simp [B8,Cg]
 | succ k ih=>simp [B8,ih]; omega
theorem JW (l:List UInt8) (k:Nat):B8 l (k+1)=B8 l k++[nxt (B8 l k)]:=rfl
theorem P' (x:Wd):bits .xor .u32 (bits .xor .u32 ((E4 x 7).toNat:Int) ((E4 x 18).toNat:Int)) ((x.toNat:Int) / 8)=((Zg x).toNat:Int):=by
 have h:(x.toNat:Int) / (8:Int)=((x >>> 3).toNat:Int):=by rw [← La x 3]; rfl
 rw [h,E1,E1]; rfl
theorem P_ (x:Wd):bits .xor .u32 (bits .xor .u32 ((E4 x 17).toNat:Int) ((E4 x 19).toNat:Int)) ((x.toNat:Int) / 1024)=((Zf x).toNat:Int):=by
 have h:(x.toNat:Int) / (1024:Int)=((x >>> 10).toNat:Int):=by rw [← La x 10]; rfl
 rw [h,E1,E1]; rfl
theorem EJ (g o n:Nat):(⟨g,o,none⟩:Addr).add n=⟨g,o+n,none⟩:=by
 unfold Addr.add; split <;> simp_all
theorem RG (g k:Nat) (W:World) (hk:k<16) :
  (Instr.sliceAt 225 (.pointer (some ⟨g,8,none⟩)) (some (.int .i64 (4*(k:Int)))) (some (.int .i64 (4*(k:Int)+4))) none).run Tryz.prog W=.ok (.slice (some ⟨g,8+4*k,none⟩) 4 (64 - 4*k)) W:=by
 have hal:Tryz.prog.arrayLen 225=64:=by kernel_rfl
 have hu:Tryz.prog.underlying 225=some (.array (Tryz.prog.arrayLen 225) (Tryz.prog.elem 225)):=by kernel_rfl
 have hs:∀ W,(sizeOf (Tryz.prog.elem 225)).run Tryz.prog W=.ok 1 W:=fun W=>by kernel_rfl
 rw [run_sliceAt_array_lh W 225 ⟨g,8,none⟩ hu .i64 .i64 (4*(k:Int)) (4*(k:Int)+4) (by omega) (by omega) (by rw [hal]; omega),hs,hal]
 have e1:(4*(k:Int)).toNat=4*k:=by omega
 have e2:(4*(k:Int)+4).toNat=4*k+4:=by omega
 have e3:¬ 64=4*k:=by omega
 have e4:4*k+4 - 4*k=4:=by omega
 simp only [slicedAt,e1,e2,e3,e4,if_false,Nat.mul_one,EJ,Result.andThen_ok]
set_option maxHeartbeats 400000 in
set_option maxRecDepth 100000 in
theorem RL (g:Nat) (w:World) (s:S8) (l:List UInt8) (n:Nat) (hl:l.length=64) (hb:Blk w g 241 (BV s l n).toArray) :
  Calls Tryz.prog 232 #[.pointer (some ⟨g,0,none⟩)] w fun e w'=>e=.returned (.agg ((B8 l 48).map wv).toArray)∧Below w.heap.size w w':=by
 have hg:=hb.lt
 have Hl:=Lib.hid hl
 clear hl
 go_enter Tryz.func232,Tryz.ntmps232
 go_wp2
 go_loopw [9] (fun i wr=>∃ k:Nat,k≤16∧i=.int .i64 k∧Below w.heap.size w wr∧Hid (wr.heap.size=w.heap.size+2)∧Blk wr w.heap.size 185 (EK []).toArray∧Blk wr (w.heap.size+1) 185 (EK (Cg l k)).toArray)
  (fun i _=>16 - (intOf i).toNat)
 case atStart =>
  exact ⟨0,by omega,rfl,((Below.refl _ _).alloc (Nat.le_refl _) _).alloc (by simp) _,Lib.hid (by simp),Blk.eq_ ((Blk.new _ _ _).alloc _) (by kernel_rfl),Blk.eq_ (heap_alloc2_new w _ _) (by kernel_rfl)⟩
 case round =>
  obtain ⟨k,hk,rfl,hbe,hsz,hb0,hb1⟩:=hrel
  by_cases hlt:k<16
  ·have hsl:=fun W=>RG g k W hlt
   have hB:=hb.below hbe hg
   have hc0:wr.cell? ⟨g,8+4*k,none⟩=some (.int .u8 (bt l (4*k):Int)):=(hB.cell _).trans (Ea s l n Hl.out (4*k) (by omega))
   have hc1:wr.cell? ⟨g,8+4*k+1,none⟩=some (.int .u8 (bt l (4*k+1):Int)):=(hB.cell _).trans (Ea s l n Hl.out (4*k+1) (by omega))
   have hc2:wr.cell? ⟨g,8+4*k+2,none⟩=some (.int .u8 (bt l (4*k+2):Int)):=(hB.cell _).trans (Ea s l n Hl.out (4*k+2) (by omega))
   have hc3:wr.cell? ⟨g,8+4*k+3,none⟩=some (.int .u8 (bt l (4*k+3):Int)):=(hB.cell _).trans (Ea s l n Hl.out (4*k+3) (by omega))
   obtain ⟨v0,hv0⟩:=GC (Cg l k) k (by omega)
   have hcs:wr.cell? ⟨w.heap.size+1,k,none⟩=some v0:=(hb1.cell _).trans hv0
   have hfs:wr.frozen? ⟨w.heap.size+1,k,none⟩=false:=hb1.frozen _
   clear hv0
   have b0:=Ih l (4*k)
   have b1:=Ih l (4*k+1)
   have b2:=Ih l (4*k+2)
   have b3:=Ih l (4*k+3)
   go_wp2
   go_region
   go_wp2
   go_roundw
   case rel =>
    refine ⟨k+1,by omega,by go_num,?_,?_,?_,?_⟩
    ·exact (hbe.drew.setCell (by simp) _)
    ·exact Lib.hid (by simpa using hsz.out)
    ·exact hb0.drew.far (by simp) _
    ·refine (hb1.drew.set_ k _).eq_ ?_
     rw [JG l k hlt, ← Gv _ _ (by simp [Cg]; omega)]
     rw [Hx]
     exact congrArg (fun z=>(EK (Cg l k)).toArray.setIfInBounds k (.int .u32 z)) (or4 _ _ _ _ b0 b1 b2 b3)
   case measure=>simp [intOf]; omega
  ·obtain rfl:k=16:=by omega
   go_wp2
   go_loopw [6] (fun i wr=>∃ k:Nat,16≤k∧k≤64∧i=.int .i64 k∧Below w.heap.size w wr∧Hid (wr.heap.size=w.heap.size+2)∧Blk wr w.heap.size 185 (EK []).toArray∧Blk wr (w.heap.size+1) 185 (EK (B8 l (k - 16))).toArray)
    (fun i _=>64 - (intOf i).toNat)
   case atStart =>
    exact ⟨16,by omega,by omega,rfl,hbe,hsz,hb0,hb1⟩
   case round =>
    clear hbe hsz hb0 hb1
    obtain ⟨k,hk0,hk,rfl,hbe,hsz,hb0,hb1⟩:=hrel
    by_cases hlt:k<64
    ·have hln:=C_ l (k - 16)
     have hstep:=JW l (k - 16)
     obtain ⟨ws,hws⟩:∃ ws,ws=B8 l (k - 16):=⟨_,rfl⟩
     rw [← hws] at hln hstep hb1
     have hlk:ws.length=k:=by omega
     obtain ⟨x16,h16⟩:∃ x,x=ws.getD (k - 16) 0:=⟨_,rfl⟩
     obtain ⟨x15,h15⟩:∃ x,x=ws.getD (k - 15) 0:=⟨_,rfl⟩
     obtain ⟨x7,h7⟩:∃ x,x=ws.getD (k - 7) 0:=⟨_,rfl⟩
     obtain ⟨x2,h2⟩:∃ x,x=ws.getD (k - 2) 0:=⟨_,rfl⟩
     have hc16:wr.cell? ⟨w.heap.size+1,k - 16,none⟩=some (.int .u32 (x16.toNat:Int)):=by rw [h16]; exact (hb1.cell _).trans (DB ws _ (by omega))
     have hc15:wr.cell? ⟨w.heap.size+1,k - 15,none⟩=some (.int .u32 (x15.toNat:Int)):=by rw [h15]; exact (hb1.cell _).trans (DB ws _ (by omega))
     have hc7:wr.cell? ⟨w.heap.size+1,k - 7,none⟩=some (.int .u32 (x7.toNat:Int)):=by rw [h7]; exact (hb1.cell _).trans (DB ws _ (by omega))
     have hc2:wr.cell? ⟨w.heap.size+1,k - 2,none⟩=some (.int .u32 (x2.toNat:Int)):=by rw [h2]; exact (hb1.cell _).trans (DB ws _ (by omega))
     obtain ⟨v0,hv0⟩:=GC ws k (by omega)
     have hcs:wr.cell? ⟨w.heap.size+1,k,none⟩=some v0:=(hb1.cell _).trans hv0
     have hfs:wr.frozen? ⟨w.heap.size+1,k,none⟩=false:=hb1.frozen _
     have H:=Lib.hid (And.intro hlk (And.intro hstep (And.intro h16 (And.intro h15 (And.intro h7 (And.intro h2 hws))))))
     have lt16:=As x16
     have lt15:=As x15
     have lt7:=As x7
     have lt2:=As x2
     clear hv0 hws hlk hstep h16 h15 h7 h2 hln
     go_wp2
     go_quiet ((go_at_call 233; exact Jn (Ix _ _ _ (by omega) (by omega))))
     go_wp2
     go_quiet ((go_at_call 233; exact Jo (Ix _ _ _ (by omega) (by omega))))
     go_wp2
     go_region
     go_wp2
     go_roundw
     case rel =>
      refine ⟨k+1,by omega,by omega,by go_num,?_,?_,?_,?_⟩
      ·exact ((F_ hbe _).drew.setCell (by simp) _)
      ·exact Lib.hid (by simpa using hsz.out)
      ·exact (hb0.drewN _).drew.far (by simp) _
      ·obtain ⟨hlk,hstep,h16,h15,h7,h2,hws⟩:=H.out
       refine ((hb1.drewN _).drew.set_ k _).eq_ ?_
       rw [show k+1 - 16=k - 16+1 from by omega,hstep]
       rw [P',P_,Pw, ← Gv ws _ (by omega),hlk]
       unfold nxt
       rw [hlk, ← h16, ← h15, ← h7, ← h2]
       rfl
     case measure=>simp [intOf]; omega
    ·obtain rfl:k=64:=by omega
     have hfull:(EK (B8 l (64 - 16))).toArray=((B8 l 48).map wv).toArray:=by rw [Kb _ (by rw [C_])]
     have hb1':=hb1.eq_ hfull
     have hsz0:(EK []).toArray.size=64:=by rw [List.size_toArray,Mh _ (by simp)]
     have hsz1:((B8 l 48).map wv).toArray.size=64:=by simp [C_]
     have hi:(Tryz.prog.info? 185).map (·.size)=some ((B8 l 48).map wv).toArray.size:=by rw [hsz1]; kernel_rfl
     have hz:((B8 l 48).map wv).toArray.size=(EK []).toArray.size:=by rw [hsz0,hsz1]
     have HI:=Lib.hid (And.intro hi hz)
     clear hi hz hsz1 hsz0 hfull hb1
     go_wp2_with (first | (refine wpList_load_row rfl _ _ rfl (w.heap.size+1) rfl 185 _ (0,0) _ hb1' Tryz.underlying185 rfl HI.out.1 ?_) | (refine wpList_store_row rfl _ _ _ rfl w.heap.size _ rfl rfl 185 _ hb0 HI.out.1 HI.out.2.symm (Jt _) ?_))
     have hr:=hb0.setRow ((B8 l 48).map wv).toArray
     exact bodyPost_ret (results_cell_row rfl _ _ w.heap.size 185 _ (0,0) _ rfl hr Tryz.underlying185 rfl HI.out.1) rfl ⟨rfl,Bk hbe (Nat.le_refl _) _⟩
end Sh
end
section
namespace Sh
open Go.RowKit Sp
def TabAt (w:World) (b:Nat):Prop:=∀ t,t<64→w.cell? ⟨b,t,none⟩=some (wv (kc t))
theorem TabAt.block {w w':World} {b:Nat} (h:TabAt w b) (e:w'.heap[b]? = w.heap[b]?):TabAt w' b:=fun t ht=>(World.cell?_of_block (w:=w) e).trans (h t ht)
theorem TabAt.lt {w:World} {b:Nat} (h:TabAt w b):b<w.heap.size:=block_lt_of_cell (h 0 (by omega))
theorem TabAt.below {w w':World} {b B:Nat} (h:TabAt w b) (hb:Below B w w') (hB:b<B):TabAt w' b:=h.block (hb.block _ hB)
def S8.list (s:S8):List Value:=[wv s.a,wv s.b,wv s.c,wv s.d,wv s.e,wv s.f,wv s.g,wv s.h]
theorem S8.one (s:S8):(S8.list s).toArray.all (·.oneCell')=true:=by simp [S8.list,wv,Value.oneCell']
theorem Fj {w:World} {g:Nat} {s:S8} {l:List UInt8} {n:Nat} {t:TypeId} (h:Blk w g t (BV s l n).toArray):w.rangeAt g 0 (S8.list s):=by
 intro j v hv
 rw [Nat.zero_add]
 refine (h.cell j).trans ?_
 have hj:j<(S8.list s).length:=(List.getElem?_eq_some_iff.1 hv).1
 rw [List.getElem?_toArray]
 unfold BV
 exact (List.getElem?_append_left hj).trans hv
set_option maxHeartbeats 400000 in
set_option maxRecDepth 100000 in
theorem WL (g:Nat) (w:World) (s:S8) (l:List UInt8) (n:Nat) (hl:l.length=64) (hb:Blk w g 241 (BV s l n).toArray) (ht:TabAt w 1) :
  Calls Tryz.prog 194 #[.pointer (some ⟨g,0,none⟩)] w fun e w'=>e=.returned (.tuple #[])∧w.grownBy w' (some g)∧Blk w' g 241 (BV (mix s l) l n).toArray:=by
 have hg:=hb.lt
 have Hl:=Lib.hid hl
 have HT:=Lib.hid ht
 clear hl ht
 have hsz1:((B8 l 48).map wv).toArray.size=64:=by simp [C_]
 have hi:(Tryz.prog.info? 185).map (·.size)=some ((B8 l 48).map wv).toArray.size:=by rw [hsz1]; kernel_rfl
 have HI:=Lib.hid (And.intro hi hsz1)
 clear hi hsz1
 go_enter Tryz.func194,Tryz.ntmps194
 go_wp2_with (first
  | (go_at_call 232; refine (RL g _ s l n Hl.out hb).mono ?_; rintro e w1 ⟨rfl,hbe⟩)
  | (refine Bu rfl 185 (.tmp 2) (.tmp 16) rfl _ _ _ rfl rfl HI.out.1 (by rw [HI.out.2]; rfl) (Jt _) ?_; intro w2 hk2 hb2 hz2)
  | (refine wpList_load_mid rfl 184 (.tmp 19) rfl g 0 rfl (S8.list s) _ (Fj (((hb.below hbe hg).below hb2 (Nat.lt_of_lt_of_le hg hbe.size)).alloc _)) Tryz.underlying184 rfl (by kernel_rfl) ?_)
  | (refine wpList_load_mid rfl 184 (.tmp 19) rfl g 0 rfl (S8.list s) _ (Fj (((hb.below hbe hg).below hb2 (Nat.lt_of_lt_of_le hg hbe.size)))) Tryz.underlying184 rfl (by kernel_rfl) ?_)
  | (refine Bu rfl 184 (.tmp 3) (.tmp 20) rfl _ _ _ rfl rfl (by kernel_rfl) (by kernel_rfl) (S8.one s) ?_; intro w3 hk3 hb3 hz3))
 have hB3:Below w.heap.size w w3:=(hbe.trans (hb2.mono hbe.size)).trans (hb3.mono (Nat.le_trans hbe.size hb2.size))
 have hz23:w1.heap.size<w2.heap.size:=by have:=hz2.out; omega
 have hkW:=hk2.below hb3 hz23
 have cw (j:Nat) (v:Value) (hv:(S8.list s)[j]? = some v):w3.cell? ⟨w2.heap.size,j,none⟩=some v:=(hk3.cell j).trans (by simpa using hv)
 have c0:=cw 0 _ rfl
 have c1:=cw 1 _ rfl
 have c2:=cw 2 _ rfl
 have c3:=cw 3 _ rfl
 have c4:=cw 4 _ rfl
 have c5:=cw 5 _ rfl
 have c6:=cw 6 _ rfl
 have c7:=cw 7 _ rfl
 clear cw
 unfold wv at c0 c1 c2 c3 c4 c5 c6 c7
 have HT3:=Lib.hid (HT.out.below hB3 HT.out.lt)
 have HW:=Lib.hid hkW
 have Hall:=Lib.hid (And.intro hb (And.intro hbe (And.intro hb2 (And.intro hb3 (And.intro hk3 (And.intro hB3 hz23))))))
 clear hkW hb hbe hb2 hb3 hk2 hk3 hB3 hz23
 go_frame
 go_quiet (fail)
 go_wp2
 go_loopw [4,5,6,7,8,9,10,11,37] (fun s4 s5 s6 s7 s8 s9 s10 s11 i wr=>∃ (k:Nat) (st:S8),k≤64∧i=.int .i64 k∧(∃ m,wr=w3.drewN m)∧st=Vi (B8 l 48) s k ∧
   s4=.int .u32 (st.a.toNat:Int)∧s5=.int .u32 (st.b.toNat:Int)∧s6=.int .u32 (st.c.toNat:Int)∧s7=.int .u32 (st.d.toNat:Int)∧s8=.int .u32 (st.e.toNat:Int)∧s9=.int .u32 (st.f.toNat:Int)∧s10=.int .u32 (st.g.toNat:Int)∧s11=.int .u32 (st.h.toNat:Int))
  (fun _ _ _ _ _ _ _ _ i _=>64 - (intOf i).toNat)
 case atStart =>
  exact ⟨0,s,by omega,rfl,⟨_,rfl⟩,rfl,rfl,rfl,rfl,rfl,rfl,rfl,rfl,rfl⟩
 case round =>
  obtain ⟨k,⟨a,b,c,d,e,f,g',h⟩,hk,rfl,⟨m,hwr⟩,hst,rfl,rfl,rfl,rfl,rfl,rfl,rfl,rfl⟩:=hrel
  by_cases hlt:k<64
  ·obtain ⟨x,hx⟩:∃ x,x=(B8 l 48).getD k 0:=⟨_,rfl⟩
   obtain ⟨kk,hkk⟩:∃ x,x=kc k:=⟨_,rfl⟩
   have hct:wr.cell? ⟨1,k,none⟩=some (.int .u32 (kk.toNat:Int)):=by rw [hwr,hkk]; exact HT3.out k hlt
   have hcw:wr.cell? ⟨w1.heap.size,k,none⟩=some (.int .u32 (x.toNat:Int)):=by
    rw [hwr,hx]
    refine (HW.out.cell k).trans ?_
    have hk':k<(B8 l 48).length:=by rw [C_]; omega
    simp [wv,List.getElem?_eq_getElem hk']
   have H:=Lib.hid (And.intro hwr (And.intro hst (And.intro hx hkk)))
   clear hwr hst hx hkk
   have la:=As a
   have lb:=As b
   have lc:=As c
   have ld:=As d
   have le:=As e
   have lf:=As f
   have lg:=As g'
   have lh:=As h
   have lx:=As x
   have lk:=As kk
   go_wp2
   go_quiet ((go_at_call 233; exact Jn (Ix _ _ _ (by omega) (by omega))))
   go_wp2_with (go_at_call 233; refine (Ix _ _ _ (by omega) (by omega)).mono ?_; rintro e w' ⟨rfl,rfl⟩)
   go_roundw
   case rel =>
    obtain ⟨hwr,hst,hx,hkk⟩:=H.out
    refine ⟨k+1,rnd kk x ⟨a,b,c,d,e,f,g',h⟩,by omega,by go_num,⟨_,by rw [hwr,World.drewN_drewN]⟩,by rw [hkk,hx,hst]; rfl,?_,?_,?_,?_,?_,?_,?_,?_⟩
    all_goals first | rfl | (simp only [Sj,Xo,E1,OT,VB,OU]; rfl)
   case measure=>simp [intOf]; omega
  ·obtain rfl:k=64:=by omega
   subst hwr
   clear hk hlt
   have hB:=Hall.out.1.below Hall.out.2.2.2.2.2.1 hg
   have hth:=(hB.drewN m).there 0 8 (by rw [List.size_toArray,Ej s l n Hl.out]; omega)
   have HB:=Lib.hid hB
   have HTH:=Lib.hid hth
   have HS:=Lib.hid hst
   clear hB hth hst
   go_wp2_with (refine wpList_store_mid rfl 184 (.tmp 135) (.tmp 133) rfl g 0 _ rfl rfl HTH.out (by kernel_rfl) (by simp [Value.oneCell']) ?_)
   go_end0
   refine ⟨rfl,Ca _ _ _ (O9 (GX Hall.out.2.2.2.2.2.1 _) _),(Blk.setCells _ _ _ _ (HB.out.drewN _)).eq_ ?_⟩
   unfold mix
   rw [← HS.out]
   simp only [OU]
   simp [BI,BV,S8.plus,wv]
end Sh
end
section
namespace Sh
open Go.RowKit Sp
def HashIs (w:World) (g:Nat) (l:List UInt8):Prop :=
 ∃ blk:List UInt8,LV l blk∧Blk w g 241 (BV (run l (l.length / 64)) blk l.length).toArray
theorem HashIs.lt {w:World} {g:Nat} {l:List UInt8} (h:HashIs w g l):g<w.heap.size:=by
 obtain ⟨_,_,hb⟩:=h; exact hb.lt
theorem HashIs.block {w w':World} {g:Nat} {l:List UInt8} (h:HashIs w g l) (e:w'.heap[g]? = w.heap[g]?):HashIs w' g l:=by
 obtain ⟨b,h1,hb⟩:=h; exact ⟨b,h1,e.trans hb⟩
theorem HashIs.below {w w':World} {g B:Nat} {l:List UInt8} (h:HashIs w g l) (hb:Below B w w') (hB:g<B):HashIs w' g l:=h.block (hb.block _ hB)
theorem Ka (w:World):(zeroValue 241).run Tryz.prog w=.ok (.agg #[.int .u32 0,.int .u32 0,.int .u32 0,.int .u32 0,.int .u32 0,.int .u32 0,.int .u32 0,.int .u32 0,.int .u8 0,.int .u8 0,.int .u8 0,.int .u8 0,.int .u8 0,.int .u8 0,.int .u8 0,.int .u8 0,.int .u8 0,.int .u8 0,.int .u8 0,.int .u8 0,.int .u8 0,.int .u8 0,.int .u8 0,.int .u8 0,.int .u8 0,.int .u8 0,.int .u8 0,.int .u8 0,.int .u8 0,.int .u8 0,.int .u8 0,.int .u8 0,.int .u8 0,.int .u8 0,.int .u8 0,.int .u8 0,.int .u8 0,.int .u8 0,.int .u8 0,.int .u8 0,.int .u8 0,.int .u8 0,.int .u8 0,.int .u8 0,.int .u8 0,.int .u8 0,.int .u8 0,.int .u8 0,.int .u8 0,.int .u8 0,.int .u8 0,.int .u8 0,.int .u8 0,.int .u8 0,.int .u8 0,.int .u8 0,.int .u8 0,.int .u8 0,.int .u8 0,.int .u8 0,.int .u8 0,.int .u8 0,.int .u8 0,.int .u8 0,.int .u8 0,.int .u8 0,.int .u8 0,.int .u8 0,.int .u8 0,.int .u8 0,.int .u8 0,.int .u8 0,.int .i64 0]) w:=by kernel_rfl
theorem OQ:∃ zs:Array Value,zs.size=73∧∀ w,(zeroValue 241).run Tryz.prog w=.ok (.agg zs) w:=⟨_,by kernel_rfl,Ka⟩
set_option maxHeartbeats 400000 in
set_option maxRecDepth 100000 in
theorem WB (w:World) :
  Calls Tryz.prog 130 #[] w fun e w'=>e=.returned (.pointer (some ⟨w.heap.size,0,none⟩))∧Below w.heap.size w w'∧HashIs w' w.heap.size []∧w.heap.size<w'.heap.size:=by
 have hz:=Ka
 go_enter Tryz.func130,Tryz.ntmps130
 go_wp2
 go_ret
 exact ⟨rfl,(Below.refl _ _).alloc (Nat.le_refl _) _,⟨List.replicate 64 0,⟨by simp,rfl⟩,(Blk.new _ _ _).eq_ (by kernel_rfl)⟩,by simp⟩
set_option maxHeartbeats 400000 in
set_option maxRecDepth 100000 in
theorem SK (w:World) (g:Nat) (l:List UInt8) (h:HashIs w g l) :
  Calls Tryz.prog 195 #[.pointer (some ⟨g,0,none⟩)] w fun e w'=>e=.returned (.pointer (some ⟨w.heap.size,0,none⟩))∧Below w.heap.size w w'∧HashIs w' w.heap.size l∧w.heap.size<w'.heap.size:=by
 obtain ⟨b,⟨h1,h2⟩,hb⟩:=h
 obtain ⟨cs,hcs⟩:∃ cs,cs=(BV (run l (l.length / 64)) b l.length).toArray:=⟨_,rfl⟩
 have hsz:cs.size=73:=by rw [hcs,List.size_toArray,Ej _ _ _ h1]
 have hi:(Tryz.prog.info? 241).map (·.size)=some cs.size:=by rw [hsz]; kernel_rfl
 have hone:cs.all (·.oneCell')=true:=by rw [hcs]; simp [BV,wv,bv,Value.oneCell']
 rw [← hcs] at hb
 have H:=Lib.hid (And.intro h1 (And.intro h2 hcs))
 obtain ⟨zs,hzs,hz⟩:=OQ
 have hzc:zs.size=cs.size:=by rw [hzs,hsz]
 have HZ:=Lib.hid hzc
 clear hzs hzc
 have HI:=Lib.hid (And.intro hi (And.intro hsz hone))
 clear h1 h2 hcs hi hsz hone
 go_enter Tryz.func195,Tryz.ntmps195
 go_wp2_with (first
  | (refine wpList_load_row rfl 241 (.tmp 5) rfl g rfl 241 cs (0,0) _ hb Tryz.underlying241 rfl HI.out.1 ?_)
  | (refine Bu rfl 241 (.tmp 3) (.tmp 6) rfl _ _ _ rfl rfl HI.out.1 HZ.out HI.out.2.2 ?_; intro w2 hk2 hb2 hz2))
 go_ret
 obtain ⟨h1,h2,hcs⟩:=H.out
 exact ⟨rfl,hb2,⟨b,⟨h1,h2⟩,hk2.eq_ hcs⟩,hk2.lt⟩
end Sh
end
end Go.Proofs.YtgemfpnlnipfnabGreatDoor
