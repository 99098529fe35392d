import Derived.Test.YtgggdbjakcpanaaGreatDoorQCRefOfL
import Derived.BigRegion
set_option linter.unusedVariables false
set_option linter.unusedSimpArgs false
namespace Go.Proofs.YtgggdbjakcpanaaGreatDoor
namespace Sh
open Go.RowKit Sp
set_option maxHeartbeats 20000000 in
set_option maxRecDepth 100000 in
theorem ofR_any (w:World) (A:Option Addr) (m:List UInt8) (c:Nat) (hs:Src w A m) (hm:m.length≤140737488351232) (ht:TabAt w 0) :
  Calls Tryz.prog 84 #[.slice A m.length c] w fun e w'=>e=.returned (dv (sum m))∧Below w.heap.size w w':=by
 have HS:=Lib.hid hs
 have HT:=Lib.hid ht
 clear hs ht
 go_enter Tryz.func84,Tryz.ntmps84
 go_wp2_with fail
 refine (padded_any _ A m c (HS.out.below ((Below.refl _ _).alloc (Nat.le_refl _) _)) hm).mono ?_
 rintro e w2 ⟨gp,capp,rfl,hown,hgl,hb2⟩
 have hb2':=hb2.mono (B':=w.heap.size+1) (by simp)
 have hr2:=(Blk.new w 28 _).below hb2' (Nat.lt_succ_self _)
 have hbe2:Below w.heap.size w w2:=((Below.refl w.heap.size w).alloc (Nat.le_refl _) _).trans (hb2'.mono (Nat.le_succ _))
 have hrd:Reads8 w2 gp (padded m):=fun j u hu=>hown.cell j u hu
 have hcap:=hown.cap
 have hT2:=HT.out.below hbe2 HT.out.lt
 have hP:=padded_mod m
 have hPl:(padded m).length≤140737488355328:=by
  have:zeros m.length<64:=Nat.mod_lt _ (by omega)
  rw [← lTo_8,lTo_length]; omega
 obtain ⟨p,hp⟩:∃ p,p=padded m:=⟨_,rfl⟩
 rw [← hp] at hrd hcap hP hPl
 obtain ⟨q,hq⟩:∃ q,q=p.length:=⟨_,rfl⟩
 rw [← hp, ← hq]
 have HP:=Lib.hid (And.intro hp (And.intro hq (And.intro hP (And.intro hrd (And.intro hT2 (And.intro hr2 hbe2))))))
 have hq2:q≤140737488355328:=by omega
 clear hown hb2 hb2' hr2 hbe2 hrd hcap hT2 hP hPl hp hq
 go_wp2_with (first
  | (refine wpList_store_new rfl 232 (.tmp 4) (.tmp 21) rfl _ _ _ rfl rfl (by kernel_rfl) (by rfl) (by simp [Value.oneCell']) ?_; intro w3 hk3 hb3 hz3))
 have hB3:w2.heap.size<w3.heap.size:=hk3.lt
 go_loopw [5] (fun at_ wr=>∃ n a5:Nat,Hid (a5=64*n)∧a5≤q∧at_=.int .i64 a5∧Below w2.heap.size w2 wr∧Blk wr w2.heap.size 232 (S8.list (run p n)).toArray)
  (fun at_ _=>q - (intOf at_).toNat)
 case atStart =>
  exact ⟨0,0,Lib.hid rfl,Nat.zero_le _,rfl,hb3,hk3.eq_ (by kernel_rfl)⟩
 case round =>
  clear hk3 hb3 hB3 hz3
  obtain ⟨n,a5,ha5,hle,rfl,hbe,hst⟩:=hrel
  obtain ⟨wo,rfl⟩:∃ wo:World,wo=wr:=⟨_,rfl⟩
  by_cases hlt:a5<q
  ·have hq64:a5+64≤q:=by
    have h1:=ha5.out
    have h2:=HP.out.2.1
    have h3:=HP.out.2.2.1
    rw [← h2] at h3
    omega
   obtain ⟨blk,hblk⟩:∃ blk,blk=(p.drop (64*n)).take 64:=⟨_,rfl⟩
   obtain ⟨s,hs8⟩:∃ s,s=run p n:=⟨_,rfl⟩
   rw [← hs8] at hst
   have hbt:∀ i,i<64→wo.cell? ⟨gp,a5+i,none⟩=some (.int .u8 (bt blk i:Int)):=fun i hi=>by
    rw [hblk,bt_block p n i hi, ← ha5.out]
    exact (HP.out.2.2.2.1.below hbe hgl).at_ _ (by rw [← HP.out.2.1]; omega)
   have HB:=Lib.hid (And.intro hblk (And.intro hs8 hbt))
   clear hblk hs8 hbt
   go_wp2
   go_loopw [7] (fun t wr=>∃ k:Nat,k≤16∧t=.int .i64 k∧Below wo.heap.size wo wr∧Hid (wr.heap.size=wo.heap.size+1)∧Blk wr wo.heap.size 256 (wrow (wordsTo blk k)).toArray)
    (fun t _=>16 - (intOf t).toNat)
   case atStart =>
    exact ⟨0,by omega,rfl,(Below.refl _ _).alloc (Nat.le_refl _) _,Lib.hid (by simp),Blk.eq_ (Blk.new _ _ _) (by kernel_rfl)⟩
   case round =>
    obtain ⟨k,hk,rfl,hb2,hz2,hw⟩:=hrel
    by_cases hlt2:k<16
    ·have hco:=wo
     have hgo:gp<wo.heap.size:=Nat.lt_of_lt_of_le hgl hbe.size
     have hcell:∀ i,i<64→wr.cell? ⟨gp,a5+i,none⟩=some (.int .u8 (bt blk i:Int)):=fun i hi=>(hb2.cell (p:=⟨gp,a5+i,none⟩) hgo).trans (HB.out.2.2 i hi)
     have c0:=hcell (4*k) (by omega)
     have c1:=hcell (4*k+1) (by omega)
     have c2:=hcell (4*k+2) (by omega)
     have c3:=hcell (4*k+3) (by omega)
     simp only [← Nat.add_assoc] at c0 c1 c2 c3
     have b0:=bt_lt blk (4*k)
     have b1:=bt_lt blk (4*k+1)
     have b2:=bt_lt blk (4*k+2)
     have b3:=bt_lt blk (4*k+3)
     obtain ⟨v0,hv0⟩:=wrow_some (wordsTo blk k) k (by omega)
     have hcs:wr.cell? ⟨wo.heap.size,k,none⟩=some v0:=(hw.cell _).trans hv0
     have hfs:wr.frozen? ⟨wo.heap.size,k,none⟩=false:=hw.frozen _
     clear hv0 hcell hco
     go_wp2
     go_region
     go_wp2
     go_roundw
     case rel =>
      refine ⟨k+1,by omega,by go_num,(hb2.drew.setCell (Nat.le_refl _) _),Lib.hid (by simpa using hz2.out),(hw.drew.set_ k _).eq_ ?_⟩
      rw [words_step blk k hlt2, ← wrow_set _ _ (by rw [words_len]; omega),words_len]
      exact congrArg (fun z=>(wrow (wordsTo blk k)).toArray.setIfInBounds k (.int .u32 z)) (sum4 _ _ _ _ b0 b1 b2 b3)
     case measure=>simp [intOf]; omega
    ·obtain rfl:k=16:=by omega
     clear hk hlt2
     go_wp2
     go_loopw [8] (fun i wr=>∃ k:Nat,16≤k∧k≤64∧i=.int .i64 k∧Below wo.heap.size wo wr∧Hid (wr.heap.size=wo.heap.size+1)∧Blk wr wo.heap.size 256 (wrow (sched blk (k - 16))).toArray)
      (fun i _=>64 - (intOf i).toNat)
     case atStart =>
      exact ⟨16,by omega,by omega,rfl,hb2,hz2,hw⟩
     case round =>
      clear hb2 hz2 hw
      obtain ⟨k,hk0,hk,rfl,hb2,hz2,hw⟩:=hrel
      by_cases hlt2:k<64
      ·as_aux_lemma =>
       have hln:=sched_len blk (k - 16)
       have hstep:=sched_step blk (k - 16)
       obtain ⟨ws,hws⟩:∃ ws,ws=sched blk (k - 16):=⟨_,rfl⟩
       rw [← hws] at hln hstep hw
       have hlk:ws.length=k:=by omega
       obtain ⟨x16,h16⟩:∃ x,x=ws.getD (k - 16) 0:=⟨_,rfl⟩
       obtain ⟨x15,h15⟩:∃ x,x=ws.getD (k - 15) 0:=⟨_,rfl⟩
       obtain ⟨x7,h7⟩:∃ x,x=ws.getD (k - 7) 0:=⟨_,rfl⟩
       obtain ⟨x2,h2⟩:∃ x,x=ws.getD (k - 2) 0:=⟨_,rfl⟩
       have hc16:wr.cell? ⟨wo.heap.size,k - 16,none⟩=some (.int .u32 (x16.toNat:Int)):=by rw [h16]; exact (hw.cell _).trans (wrow_get ws _ (by omega))
       have hc15:wr.cell? ⟨wo.heap.size,k - 15,none⟩=some (.int .u32 (x15.toNat:Int)):=by rw [h15]; exact (hw.cell _).trans (wrow_get ws _ (by omega))
       have hc7:wr.cell? ⟨wo.heap.size,k - 7,none⟩=some (.int .u32 (x7.toNat:Int)):=by rw [h7]; exact (hw.cell _).trans (wrow_get ws _ (by omega))
       have hc2:wr.cell? ⟨wo.heap.size,k - 2,none⟩=some (.int .u32 (x2.toNat:Int)):=by rw [h2]; exact (hw.cell _).trans (wrow_get ws _ (by omega))
       obtain ⟨v0,hv0⟩:=wrow_some ws k (by omega)
       have hcs:wr.cell? ⟨wo.heap.size,k,none⟩=some v0:=(hw.cell _).trans hv0
       have hfs:wr.frozen? ⟨wo.heap.size,k,none⟩=false:=hw.frozen _
       have H:=Lib.hid (And.intro hlk (And.intro hstep (And.intro h16 (And.intro h15 (And.intro h7 (And.intro h2 hws))))))
       have lt16:=wd_lt x16
       have lt15:=wd_lt x15
       have lt7:=wd_lt x7
       have lt2:=wd_lt x2
       clear hv0 hws hlk hstep h16 h15 h7 h2 hln
       go_wp2
       go_quiet ((go_at_call 146; exact quiet_of' (rotR_any _ _ _ (by omega) (by omega))))
       go_wp2
       go_quiet ((go_at_call 146; exact quiet_add (rotR_any _ _ _ (by omega) (by omega))))
       go_wp2
       go_region
       go_wp2
       go_roundw
       case rel =>
        refine ⟨k+1,by omega,by omega,by go_num,?_,?_,?_⟩
        ·exact ((below_drewN hb2 _).drew.setCell (Nat.le_refl _) _)
        ·exact Lib.hid (by simpa using hz2.out)
        ·obtain ⟨hlk,hstep,h16,h15,h7,h2,hws⟩:=H.out
         refine ((hw.drewN _).drew.set_ k _).eq_ ?_
         rw [show k+1 - 16=k - 16+1 from by omega,hstep]
         rw [sig0_eq,sig1_eq,wd_sum4, ← wrow_set ws _ (by omega),hlk]
         unfold nxt
         rw [hlk, ← h16, ← h15, ← h7, ← h2]
         rfl
       case measure=>simp [intOf]; omega
      ·obtain rfl:k=64:=by omega
       clear hk hk0 hlt2
       have hw':=hw.eq_ (by rw [wrow_full _ (by rw [sched_len])]:_=((sched blk 48).map wv).toArray)
       have hso:=hst.below hb2 (by have:=hst.lt; exact this)
       clear hw
       obtain ⟨wa,rfl⟩:∃ wa:World,wa=wr:=⟨_,rfl⟩
       go_wp2_with (first
        | (refine wpList_load_row rfl 232 (.tmp 4) rfl w2.heap.size rfl 232 _ (0,0) _ hso Tryz.underlying232 rfl (by kernel_rfl) ?_)
        | (refine wpList_store_new rfl 232 (.tmp 11) (.tmp 128) rfl _ _ _ rfl rfl (by kernel_rfl) (by rfl) (S8.one s) ?_; intro w5 hk5 hb5 hz5))
       go_loopw [12] (fun t wr=>∃ (k:Nat) (st:S8),k≤64∧t=.int .i64 k∧Hid (st=rnds (sched blk 48) s k)∧Below wa.heap.size wa wr∧Blk wr wa.heap.size 232 (S8.list st).toArray)
        (fun t _=>64 - (intOf t).toNat)
       case atStart =>
        exact ⟨0,s,by omega,rfl,Lib.hid rfl,hb5,hk5⟩
       case round =>
        clear hk5 hb5 hz5
        obtain ⟨k,⟨a,b,c',d,e,f,g',h⟩,hk,rfl,hst4,hb4,hA⟩:=hrel
        by_cases hlt2:k<64
        ·obtain ⟨x,hx⟩:∃ x,x=(sched blk 48).getD k 0:=⟨_,rfl⟩
         obtain ⟨kk,hkk⟩:∃ x,x=kc k:=⟨_,rfl⟩
         have hwl:wo.heap.size<wa.heap.size:=hw'.lt
         have hT:=HP.out.2.2.2.2.1
         have hTlt:=hT.lt
         have hct:wr.cell? ⟨0,k,none⟩=some (.int .u32 (kk.toNat:Int)):=by
          rw [hkk]
          exact ((hT.below hbe hTlt).below hb2 (Nat.lt_of_lt_of_le hTlt hbe.size)).below hb4 (Nat.lt_of_lt_of_le hTlt (Nat.le_trans hbe.size hb2.size)) k hlt2
         have hcw:wr.cell? ⟨wo.heap.size,k,none⟩=some (.int .u32 (x.toNat:Int)):=by
          rw [hx]
          refine ((hw'.below hb4 hwl).cell k).trans ?_
          have hk':k<(sched blk 48).length:=by rw [sched_len]; omega
          simp [wv,List.getElem?_eq_getElem hk']
         have c0:wr.cell? ⟨wa.heap.size,0,none⟩=some (.int .u32 (a.toNat:Int)):=hA.cell 0
         have c1:wr.cell? ⟨wa.heap.size,1,none⟩=some (.int .u32 (b.toNat:Int)):=hA.cell 1
         have c2:wr.cell? ⟨wa.heap.size,2,none⟩=some (.int .u32 (c'.toNat:Int)):=hA.cell 2
         have c3:wr.cell? ⟨wa.heap.size,3,none⟩=some (.int .u32 (d.toNat:Int)):=hA.cell 3
         have c4:wr.cell? ⟨wa.heap.size,4,none⟩=some (.int .u32 (e.toNat:Int)):=hA.cell 4
         have c5:wr.cell? ⟨wa.heap.size,5,none⟩=some (.int .u32 (f.toNat:Int)):=hA.cell 5
         have c6:wr.cell? ⟨wa.heap.size,6,none⟩=some (.int .u32 (g'.toNat:Int)):=hA.cell 6
         have c7:wr.cell? ⟨wa.heap.size,7,none⟩=some (.int .u32 (h.toNat:Int)):=hA.cell 7
         have f0:=hA.frozen 0
         have f1:=hA.frozen 1
         have f2:=hA.frozen 2
         have f3:=hA.frozen 3
         have f4:=hA.frozen 4
         have f5:=hA.frozen 5
         have f6:=hA.frozen 6
         have f7:=hA.frozen 7
         have H:=Lib.hid (And.intro hx hkk)
         clear hx hkk hT hTlt hwl
         have la:=wd_lt a
         have lb:=wd_lt b
         have lc:=wd_lt c'
         have ld:=wd_lt d
         have le:=wd_lt e
         have lf:=wd_lt f
         have lg:=wd_lt g'
         have lh:=wd_lt h
         have lx:=wd_lt x
         have lk:=wd_lt kk
         go_wp2
         go_quiet ((go_at_call 146; exact quiet_of' (rotR_any _ _ _ (by omega) (by omega))))
         go_wp2
         go_quiet ((go_at_call 146; exact quiet_add (rotR_any _ _ _ (by omega) (by omega))))
         go_wp2
         go_roundw
         case rel =>
          refine ⟨k+1,rnd kk x ⟨a,b,c',d,e,f,g',h⟩,by omega,by go_num,Lib.hid (by rw [H.out.1,H.out.2,hst4.out]; rfl),below8 (below_drewN hb4 _) (Nat.le_refl _),round8 (hA.drewN _) ?_ ?_⟩
          ·simp only [wd_not',wd_xor,wd_and]
           exact wd_sum15 _ _ _ _ _ _
          ·simp only [wd_not',wd_xor,wd_and]
           exact wd_sum52 _ _ _ _ _ _ _
         case measure=>simp [intOf]; omega
        ·obtain rfl:k=64:=by omega
         obtain ⟨st,hstd⟩:∃ st,st=(⟨a,b,c',d,e,f,g',h⟩:S8):=⟨_,rfl⟩
         rw [← hstd] at hst4 hA
         clear hk hlt2 hstd
         have hso4:=hso.below hb4 (Nat.lt_of_lt_of_le hso.lt (Nat.le_refl _))
         have hB4:Below w2.heap.size w2 wr:=(hbe.trans (hb2.mono hbe.size)).trans (hb4.mono (Nat.le_trans hbe.size hb2.size))
         obtain ⟨wb,rfl⟩:∃ wb:World,wb=wr:=⟨_,rfl⟩
         have hne:w2.heap.size<wa.heap.size:=hso.lt
         go_wp2
         go_loopw [16] (fun t wr=>∃ k:Nat,k≤8∧t=.int .i64 k∧Below w2.heap.size w2 wr∧Blk wr w2.heap.size 232 ((S8.list (s.plus st)).take k++(S8.list s).drop k).toArray∧Blk wr wa.heap.size 232 (S8.list st).toArray)
          (fun t _=>8 - (intOf t).toNat)
         case atStart =>
          exact ⟨0,by omega,rfl,hB4,hso4,hA⟩
         case round =>
          clear hB4 hso4 hA
          obtain ⟨k,hk,rfl,hB5,hS,hA⟩:=hrel
          by_cases hlt2:k<8
          ·obtain ⟨x,hx⟩:∃ x,x=s.word k:=⟨_,rfl⟩
           obtain ⟨y,hy⟩:∃ y,y=st.word k:=⟨_,rfl⟩
           have cs:wr.cell? ⟨w2.heap.size,k,none⟩=some (.int .u32 (x.toNat:Int)):=by
            refine (hS.cell k).trans ?_
            rw [List.getElem?_toArray,mid_get (S8.list (s.plus st)) (S8.list s) k rfl (show k<8 from hlt2),list_word s k hlt2,hx]; rfl
           have ca:wr.cell? ⟨wa.heap.size,k,none⟩=some (.int .u32 (y.toNat:Int)):=by
            refine (hA.cell k).trans ?_
            rw [List.getElem?_toArray,list_word st k hlt2,hy]; rfl
           have fs:=hS.frozen k
           have H:=Lib.hid (And.intro hx hy)
           clear hx hy
           have lx:=wd_lt x
           have ly:=wd_lt y
           go_wp2
           go_region
           go_wp2
           go_roundw
           case rel =>
            refine ⟨k+1,by omega,by go_num,hB5.drew.setCell (Nat.le_refl _) _,(hS.drew.set_ k _).eq_ ?_,hA.drew.far (Nat.ne_of_gt hne) _⟩
            rw [List.setIfInBounds_toArray]
            refine congrArg List.toArray (set_step (S8.list (s.plus st)) (S8.list s) k _ ?_ rfl)
            rw [list_word _ k hlt2,plus_word _ _ k hlt2, ← H.out.1, ← H.out.2,wd_add]; rfl
           case measure=>simp [intOf]; omega
          ·obtain rfl:k=8:=by omega
           go_wp2
           go_roundw
           case rel =>
            refine ⟨n+1,a5+64,Lib.hid (by have:=ha5.out; omega),by omega,by go_num,hB5,hS.eq_ ?_⟩
            have h1:run p (n+1)=s.plus st:=by
             simp only [run]
             rw [← HB.out.1, ← HB.out.2.1,hst4.out]; rfl
            rw [h1]; rfl
           case measure=>simp [intOf]; omega
  ·obtain rfl:a5=q:=by omega
   obtain ⟨S,hS8⟩:∃ S,S=run p n:=⟨_,rfl⟩
   rw [← hS8] at hst
   have hsum:S.out=sum m:=by
    have h1:(padded m).length=a5:=by rw [HP.out.2.1,HP.out.1]
    have h2:n=(padded m).length / 64:=by rw [h1,ha5.out]; omega
    unfold sum
    rw [← h2, ← HP.out.1,hS8]
   have HSU:=Lib.hid hsum
   clear hS8 hsum hlt hle
   have hD:w2.heap.size<wo.heap.size:=hst.lt
   go_wp2
   go_loopw [18] (fun t wr=>∃ k:Nat,k≤32∧t=.int .i64 k∧Below w2.heap.size w2 wr∧Blk wr w2.heap.size 232 (S8.list S).toArray∧Blk wr wo.heap.size 28 ((S.out.map bv).take k++(List.replicate 32 (Value.int .u8 0)).drop k).toArray)
    (fun t _=>32 - (intOf t).toNat)
   case atStart =>
    exact ⟨0,by omega,rfl,hbe.alloc hbe.size _,hst.alloc _,Blk.eq_ (Blk.new wo _ _) (by kernel_rfl)⟩
   case round =>
    obtain ⟨k,hk,rfl,hb6,hS,hDd⟩:=hrel
    have hol:(S.out.map bv).length=32:=by rw [List.length_map,out_length]
    by_cases hlt2:k<32
    ·obtain ⟨x,hx⟩:∃ x,x=S.word (k / 4):=⟨_,rfl⟩
     have hk4:k / 4<8:=by omega
     have cs:wr.cell? ⟨w2.heap.size,k / 4,none⟩=some (.int .u32 (x.toNat:Int)):=by
      refine (hS.cell (k / 4)).trans ?_
      rw [List.getElem?_toArray,list_word S (k / 4) hk4,hx]; rfl
     have cd:wr.cell? ⟨wo.heap.size,k,none⟩=some (.int .u8 0):=by
      refine (hDd.cell k).trans ?_
      rw [List.getElem?_toArray,mid_get (S.out.map bv) (List.replicate 32 (Value.int .u8 0)) k (by rw [hol]; rfl) (by rw [hol]; exact hlt2),List.getElem?_replicate,if_pos hlt2]
     have fd:=hDd.frozen k
     have H:=Lib.hid hx
     have HOL:=Lib.hid hol
     clear hx hol
     have lx:=wd_lt x
     obtain ⟨r,hr⟩:∃ r,r=k%4:=⟨_,rfl⟩
     have hr1:(k:Int)%4=(r:Int):=by omega
     have hr2:r<4:=by omega
     have HR:=Lib.hid hr
     clear hr
     go_wp2
     go_roundw
     case rel =>
      refine ⟨k+1,by omega,by go_num,hb6.setCell (Nat.le_of_lt hD) _,hS.far (Nat.ne_of_lt hD) _,(hDd.set_ k _).eq_ ?_⟩
      rw [List.setIfInBounds_toArray]
      refine congrArg List.toArray (set_step (S.out.map bv) (List.replicate 32 (Value.int .u8 0)) k _ ?_ (by rw [HOL.out]; rfl))
      rw [out_get S k hlt2, ← byteOf _ _ (byte_at S k), ← H.out, ← HR.out]
     case measure=>simp [intOf]; omega
    ·obtain rfl:k=32:=by omega
     have hd':Blk wr wo.heap.size 28 ((sum m).map bv).toArray:=hDd.eq_ (by
      rw [List.take_of_length_le (by rw [hol]; exact Nat.le_refl _),List.drop_of_length_le (by simp),List.append_nil,HSU.out])
     have hr0:=(HP.out.2.2.2.2.2.1.below hb6 HP.out.2.2.2.2.2.1.lt)
     have hbf:Below w.heap.size w wr:=HP.out.2.2.2.2.2.2.trans (hb6.mono HP.out.2.2.2.2.2.2.size)
     clear hDd hol hk hlt2
     go_wp2_with (first
      | (refine wpList_load_row rfl 28 (.tmp 17) rfl wo.heap.size rfl 28 _ (0,0) _ hd' Tryz.underlying28 rfl (sum_info m) ?_)
      | (refine wpList_store_row rfl 28 (.tmp 2) (.tmp 249) rfl w.heap.size _ rfl rfl 28 _ hr0 (sum_info m) (by rw [sum_size]; rfl) (sum_one m) ?_))
     exact bodyPost_ret (results_cell_row rfl _ _ w.heap.size 28 _ (0,0) _ rfl (hr0.setRow _) Tryz.underlying28 rfl (sum_info m)) rfl ⟨rfl,below_setRow hbf (Nat.le_refl _) _⟩
end Sh
end Go.Proofs.YtgggdbjakcpanaaGreatDoor
