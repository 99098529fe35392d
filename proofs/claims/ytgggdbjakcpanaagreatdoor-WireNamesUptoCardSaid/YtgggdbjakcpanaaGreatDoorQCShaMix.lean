import Derived.Test.YtgggdbjakcpanaaGreatDoorQCShaSched
import Derived.Deep.MidRow
set_option linter.unusedVariables false
set_option linter.unusedSimpArgs false
namespace Go.Proofs.YtgggdbjakcpanaaGreatDoor
namespace Sh
open Go.RowKit Sp
def TabAt (w:World) (b:Nat):Prop:=∀ t,t<64→w.cell? ⟨b,t,none⟩=some (wv (kc t))
theorem TabAt.block {w w':World} {b:Nat} (h:TabAt w b) (e:w'.heap[b]? = w.heap[b]?):TabAt w' b:=fun t ht=>(World.cell?_of_block (w:=w) e).trans (h t ht)
theorem TabAt.lt {w:World} {b:Nat} (h:TabAt w b):b<w.heap.size:=block_lt_of_cell (h 0 (by omega))
theorem TabAt.below {w w':World} {b B:Nat} (h:TabAt w b) (hb:Below B w w') (hB:b<B):TabAt w' b:=h.block (hb.block _ hB)
def S8.list (s:S8):List Value:=[wv s.a,wv s.b,wv s.c,wv s.d,wv s.e,wv s.f,wv s.g,wv s.h]
theorem S8.one (s:S8):(S8.list s).toArray.all (·.oneCell')=true:=by simp [S8.list,wv,Value.oneCell']
theorem state_range {w:World} {g:Nat} {s:S8} {l:List UInt8} {n:Nat} {t:TypeId} (h:Blk w g t (hcells s l n).toArray):w.rangeAt g 0 (S8.list s):=by
 intro j v hv
 rw [Nat.zero_add]
 refine (h.cell j).trans ?_
 have hj:j<(S8.list s).length:=(List.getElem?_eq_some_iff.1 hv).1
 rw [List.getElem?_toArray]
 unfold hcells
 exact (List.getElem?_append_left hj).trans hv
set_option maxHeartbeats 400000 in
set_option maxRecDepth 100000 in
theorem mix_any (g:Nat) (w:World) (s:S8) (l:List UInt8) (n:Nat) (hl:l.length=64) (hb:Blk w g 234 (hcells s l n).toArray) (ht:TabAt w 1) :
  Calls Tryz.prog 127 #[.pointer (some ⟨g,0,none⟩)] w fun e w'=>e=.returned (.tuple #[])∧w.grownBy w' (some g)∧Blk w' g 234 (hcells (mix s l) l n).toArray:=by
 have hg:=hb.lt
 have Hl:=Lib.hid hl
 have HT:=Lib.hid ht
 clear hl ht
 have hsz1:((sched l 48).map wv).toArray.size=64:=by simp [sched_len]
 have hi:(Tryz.prog.info? 256).map (·.size)=some ((sched l 48).map wv).toArray.size:=by rw [hsz1]; kernel_rfl
 have HI:=Lib.hid (And.intro hi hsz1)
 clear hi hsz1
 go_enter Tryz.func127,Tryz.ntmps127
 go_wp2_with (first
  | (go_at_call 189; refine (sched_any g _ s l n Hl.out hb).mono ?_; rintro e w1 ⟨rfl,hbe⟩)
  | (refine wpList_store_new rfl 256 (.tmp 2) (.tmp 16) rfl _ _ _ rfl rfl HI.out.1 (by rw [HI.out.2]; rfl) (oneCell_wv _) ?_; intro w2 hk2 hb2 hz2)
  | (refine wpList_load_mid rfl 232 (.tmp 19) rfl g 0 rfl (S8.list s) _ (state_range (((hb.below hbe hg).below hb2 (Nat.lt_of_lt_of_le hg hbe.size)).alloc _)) Tryz.underlying232 rfl (by kernel_rfl) ?_)
  | (refine wpList_load_mid rfl 232 (.tmp 19) rfl g 0 rfl (S8.list s) _ (state_range (((hb.below hbe hg).below hb2 (Nat.lt_of_lt_of_le hg hbe.size)))) Tryz.underlying232 rfl (by kernel_rfl) ?_)
  | (refine wpList_store_new rfl 232 (.tmp 3) (.tmp 20) rfl _ _ _ rfl rfl (by kernel_rfl) (by kernel_rfl) (S8.one s) ?_; intro w3 hk3 hb3 hz3))
 have hB3:Below w.heap.size w w3:=(hbe.trans (hb2.mono hbe.size)).trans (hb3.mono (Nat.le_trans hbe.size hb2.size))
 have hz23:w1.heap.size<w2.heap.size:=by have:=hz2.out; omega
 have hkW:=hk2.below hb3 hz23
 have cw (j:Nat) (v:Value) (hv:(S8.list s)[j]? = some v):w3.cell? ⟨w2.heap.size,j,none⟩=some v:=(hk3.cell j).trans (by simpa using hv)
 have c0:=cw 0 _ rfl
 have c1:=cw 1 _ rfl
 have c2:=cw 2 _ rfl
 have c3:=cw 3 _ rfl
 have c4:=cw 4 _ rfl
 have c5:=cw 5 _ rfl
 have c6:=cw 6 _ rfl
 have c7:=cw 7 _ rfl
 clear cw
 unfold wv at c0 c1 c2 c3 c4 c5 c6 c7
 have HT3:=Lib.hid (HT.out.below hB3 HT.out.lt)
 have HW:=Lib.hid hkW
 have Hall:=Lib.hid (And.intro hb (And.intro hbe (And.intro hb2 (And.intro hb3 (And.intro hk3 (And.intro hB3 hz23))))))
 clear hkW hb hbe hb2 hb3 hk2 hk3 hB3 hz23
 go_frame
 go_quiet (fail)
 go_wp2
 go_loopw [4,5,6,7,8,9,10,11,37] (fun s4 s5 s6 s7 s8 s9 s10 s11 i wr=>∃ (k:Nat) (st:S8),k≤64∧i=.int .i64 k∧(∃ m,wr=w3.drewN m)∧st=rnds (sched l 48) s k ∧
   s4=.int .u32 (st.a.toNat:Int)∧s5=.int .u32 (st.b.toNat:Int)∧s6=.int .u32 (st.c.toNat:Int)∧s7=.int .u32 (st.d.toNat:Int)∧s8=.int .u32 (st.e.toNat:Int)∧s9=.int .u32 (st.f.toNat:Int)∧s10=.int .u32 (st.g.toNat:Int)∧s11=.int .u32 (st.h.toNat:Int))
  (fun _ _ _ _ _ _ _ _ i _=>64 - (intOf i).toNat)
 case atStart =>
  exact ⟨0,s,by omega,rfl,⟨_,rfl⟩,rfl,rfl,rfl,rfl,rfl,rfl,rfl,rfl,rfl⟩
 case round =>
  obtain ⟨k,⟨a,b,c,d,e,f,g',h⟩,hk,rfl,⟨m,hwr⟩,hst,rfl,rfl,rfl,rfl,rfl,rfl,rfl,rfl⟩:=hrel
  by_cases hlt:k<64
  ·obtain ⟨x,hx⟩:∃ x,x=(sched l 48).getD k 0:=⟨_,rfl⟩
   obtain ⟨kk,hkk⟩:∃ x,x=kc k:=⟨_,rfl⟩
   have hct:wr.cell? ⟨1,k,none⟩=some (.int .u32 (kk.toNat:Int)):=by rw [hwr,hkk]; exact HT3.out k hlt
   have hcw:wr.cell? ⟨w1.heap.size,k,none⟩=some (.int .u32 (x.toNat:Int)):=by
    rw [hwr,hx]
    refine (HW.out.cell k).trans ?_
    have hk':k<(sched l 48).length:=by rw [sched_len]; omega
    simp [wv,List.getElem?_eq_getElem hk']
   have H:=Lib.hid (And.intro hwr (And.intro hst (And.intro hx hkk)))
   clear hwr hst hx hkk
   have la:=wd_lt a
   have lb:=wd_lt b
   have lc:=wd_lt c
   have ld:=wd_lt d
   have le:=wd_lt e
   have lf:=wd_lt f
   have lg:=wd_lt g'
   have lh:=wd_lt h
   have lx:=wd_lt x
   have lk:=wd_lt kk
   go_wp2
   go_quiet ((go_at_call 190; exact quiet_left (rot_any _ _ _ (by omega) (by omega))))
   go_wp2_with (go_at_call 190; refine (rot_any _ _ _ (by omega) (by omega)).mono ?_; rintro e w' ⟨rfl,rfl⟩)
   go_roundw
   case rel =>
    obtain ⟨hwr,hst,hx,hkk⟩:=H.out
    refine ⟨k+1,rnd kk x ⟨a,b,c,d,e,f,g',h⟩,by omega,by go_num,⟨_,by rw [hwr,World.drewN_drewN]⟩,by rw [hkk,hx,hst]; rfl,?_,?_,?_,?_,?_,?_,?_,?_⟩
    all_goals first | rfl | (simp only [u32_ones,wd_not,wd_xor,wd_and,wd_sum5,wd_add]; rfl)
   case measure=>simp [intOf]; omega
  ·obtain rfl:k=64:=by omega
   subst hwr
   clear hk hlt
   have hB:=Hall.out.1.below Hall.out.2.2.2.2.2.1 hg
   have hth:=(hB.drewN m).there 0 8 (by rw [List.size_toArray,hcells_length s l n Hl.out]; omega)
   have HB:=Lib.hid hB
   have HTH:=Lib.hid hth
   have HS:=Lib.hid hst
   clear hB hth hst
   go_wp2_with (refine wpList_store_mid rfl 232 (.tmp 135) (.tmp 133) rfl g 0 _ rfl rfl HTH.out (by kernel_rfl) (by simp [Value.oneCell']) ?_)
   go_end0
   refine ⟨rfl,only_setCells _ _ _ (only_drewN (only_of_below Hall.out.2.2.2.2.2.1 _) _),(Blk.setCells _ _ _ _ (HB.out.drewN _)).eq_ ?_⟩
   unfold mix
   rw [← HS.out]
   simp only [wd_add]
   simp [setAll,hcells,S8.plus,wv]
end Sh
end Go.Proofs.YtgggdbjakcpanaaGreatDoor
