import Derived.Test.YtgggdbjakcpanaaGreatDoorQCShaWrite
set_option linter.unusedVariables false
set_option linter.unusedSimpArgs false
namespace Go.Proofs.YtgggdbjakcpanaaGreatDoor
namespace Sh
open Go.RowKit Sp
set_option maxHeartbeats 400000 in
set_option maxRecDepth 100000 in
theorem write_any (w:World) (g:Nat) (l m:List UInt8) (A:Option Addr) (c:Nat) (h:HashIs w g l) (hs:Src w A m) (hA:m≠[]→∀ a,A=some a→a.block≠g) (ht:TabAt w 1) (hg:g≠1)
    (hc:m.length≤c) (hmax:c≤9223372036854775807) (hlm:l.length+m.length≤9223372036854775807) :
    Calls Tryz.prog 70 #[.pointer (some ⟨g,0,none⟩),.slice A m.length c] w fun e w'=>e=.returned (.tuple #[])∧w.grownBy w' (some g)∧HashIs w' g (l++m):=by
  have HT:=Lib.hid ht
  have H0:=Lib.hid h
  have HS:=Lib.hid hs
  have HA:=Lib.hid hA
  clear ht h hs hA
  go_enter Tryz.func70,Tryz.ntmps70
  go_wp2
  go_loopw [1] (fun v wr=>∃ (k:Nat) (A':Option Addr),k≤m.length∧v=.slice A' (m.length - k) (c - k)∧Hid (Src wr A' (m.drop k)∧(m.drop k≠[]→∀ a,A'=some a→a.block≠g)∧w.grownBy wr (some g)∧HashIs wr g (l++m.take k)))
    (fun v _=>lenOf' v)
  case atStart =>
    exact ⟨0,A,by omega,rfl,Lib.hid ⟨by simpa using HS.out,by simpa using HA.out,World.grownBy.refl _ _,by simpa using H0.out⟩⟩
  case round =>
    obtain ⟨k,A',hk,rfl,HR⟩:=hrel
    obtain ⟨hs,hA,ho,blk,hw,hb⟩:=HR.out
    by_cases hlt:k<m.length
    · obtain ⟨q,hq⟩:∃ q,q=(l++m.take k).length:=⟨_,rfl⟩
      obtain ⟨r,hr⟩:∃ r,r=q%64:=⟨_,rfl⟩
      have hql:q=l.length+k:=by rw [hq]; simp; omega
      have hr64:r<64:=by omega
      have hrq:(q:Int)%64=(r:Int):=by omega
      have hq0:(q:Int)≤9223372036854775807:=by omega
      obtain ⟨n,hn⟩:∃ n,n=Nat.min (m.length - k) (64 - r):=⟨_,rfl⟩
      have hn1:n≤m.length - k∧n≤64 - r∧(n=m.length - k∨n=64 - r):=by
        rw [hn]; exact ⟨Nat.min_le_left _ _,Nat.min_le_right _ _,by rcases Nat.le_total (m.length - k) (64 - r) with h | h <;> simp [Nat.min_def] <;> omega⟩
      obtain ⟨hn1,hn2,hn3⟩:=hn1
      have hn0:0<n:=by omega
      have hqn:(q:Int)+(n:Int)≤9223372036854775807:=by omega
      obtain ⟨L,hL⟩:∃ L,L=l++m.take k:=⟨_,rfl⟩
      rw [← hL] at hq hw hb
      rw [← hq] at hb
      obtain ⟨s,hs8⟩:∃ s,s=run L (q / 64):=⟨_,rfl⟩
      rw [← hs8] at hb
      obtain ⟨M,hM⟩:∃ M,M=m.drop k:=⟨_,rfl⟩
      have hMl:M.length=m.length - k:=by rw [hM,List.length_drop]
      rw [← hM] at hs hA
      obtain ⟨b,o,rfl,hbl,hcell⟩:=hs (by rintro rfl; simp at hMl; omega)
      obtain ⟨A'',hcut,hs'',hA''⟩:=cut_src (c:=c - k) (n:=n) hs (by omega) (by omega)
      rw [hMl] at hcut
      obtain ⟨m',hm'⟩:∃ m',m'=M.take n:=⟨_,rfl⟩
      have hml':m'.length=n:=by rw [hm',List.length_take]; omega
      obtain ⟨cs,hcs⟩:∃ cs,cs=m'.map bv:=⟨_,rfl⟩
      have hcsl:cs.length=n:=by rw [hcs,List.length_map,hml']
      have hsrc:∀ j v,cs[j]? = some v→wr.cell? ((⟨b,o,none⟩:Addr).add j)=some v:=fun j v hv=>by
        rw [addr_add]
        rw [hcs,List.getElem?_map] at hv
        obtain ⟨u,hu,rfl⟩:=Option.map_eq_some_iff.1 hv
        refine hcell j u ?_
        rw [hm',List.getElem?_take] at hu
        split at hu
        · exact hu
        · cases hu
      have hone:∀ v∈cs,v.oneCell'=true:=by rw [hcs]; exact oneCell_bv m'
      have hrL:L.length%64=r:=by rw [hr,hq]
      have hwl:=hw.1
      have hsl:=fun W=>slice_from g r W hr64
      have hc72:wr.cell? ⟨g,72,none⟩=some (.int .i64 (q:Int)):=(hb.cell 72).trans (hcells_72 s blk q hwl)
      have hTr:=HT.out.block (ho.block _ HT.out.lt (fun e=>hg (by injection e with e; exact e.symm)))
      have hlaid:=laid_length blk m' r hwl (by omega)
      have HC:=Lib.hid (And.intro hsrc (And.intro hone (And.intro hcsl (And.intro hcs (And.intro hml' (And.intro hwl (And.intro hTr hlaid)))))))
      have HE:=Lib.hid (And.intro hL (And.intro hs8 (And.intro hM (And.intro hMl (And.intro hm' (And.intro hrL (And.intro hq (And.intro hw (And.intro ho (And.intro hs'' (And.intro hA hA'')))))))))))
      have HN:=Lib.hid hn
      have HR:=Lib.hid hr
      have HQ:=Lib.hid hql
      clear hs hA ho hw hsrc hone hcsl hcs hml' hwl hTr hlaid hL hs8 hM hMl hm' hrL hq hs'' hA'' hn hr hql hn3 hcell hbl
      by_cases hf:r+n=64
      all_goals
        have hfb:((r:Int)+(n:Int) == 64)=decide (r+n=64):=by
          rw [Bool.eq_iff_iff]; simp; omega
        simp only [hf,decide_true,decide_false] at hfb
        go_wp2_with (first
          | (refine wpList_copy_blk rfl (.tmp 18) (.tmp 19) 29 29 rfl 5 Tryz.underlying29 (by kernel_rfl) g (8+r) (64 - r) (64 - r) ⟨b,o,none⟩ (m.length - k) (c - k) rfl rfl (hcells s blk q) 234 hb cs (by rw [HC.out.2.2.1]; exact HN.out) HC.out.1 (by rw [HC.out.2.2.1,hcells_length _ _ _ HC.out.2.2.2.2.2.1]; omega) HC.out.2.1 ?_
             rw [HC.out.2.2.1]
             intro w2 hk2 ho2
             have hk2':=hk2.eq_ (laid_eq s blk m' cs r q n HC.out.2.2.2.1 HC.out.2.2.1 HC.out.2.2.2.2.2.1 hn2 hr64)
             have hc72':=(hk2'.cell 72).trans (hcells_72 s _ q HC.out.2.2.2.2.2.2.2)
             have hf72:=hk2'.frozen 72
             have HT2:=Lib.hid (TabAt.block HC.out.2.2.2.2.2.2.1 (ho2.block _ HC.out.2.2.2.2.2.2.1.lt (fun e=>hg (by injection e with e; exact e.symm))))
             clear hk2)
          | (go_at_call 127
             refine (mix_any g _ s (laid blk r m') (q+n) HC.out.2.2.2.2.2.2.2 ((hk2'.set_ 72 _).eq_ (hcells_many s _ q (q+n) HC.out.2.2.2.2.2.2.2)) (tab_set HT2.out hg)).mono ?_
             rintro e w4 ⟨rfl,ho4,hk4⟩))
        go_roundw
        case rel =>
          obtain ⟨hL,hs8,hM,hMl,hm',hrL,hq,hw,ho,hs'',hA,hA''⟩:=HE.out
          have hml':=HC.out.2.2.2.2.1
          have hA'':=hA'' g hA
          have eT:l++m.take (k+n)=L++m':=by rw [hL,hm',hM,List.append_assoc,List.take_add]
          have eD:m.drop (k+n)=M.drop n:=by rw [hM,List.drop_drop]
          refine ⟨k+n,A'',by omega,by rw [Nat.sub_sub,Nat.sub_sub],Lib.hid ?_⟩
          rw [eT,eD]
          first
            | (have hx:=waits_full L blk m' hw (by rw [hrL,hml']; exact hf)
               refine ⟨((hs''.only ho2 hA'').only (only_setCell (World.grownBy.refl _ _) (.inl rfl) _) hA'').only ho4 hA'',hA'',only_trans (only_trans ho ho2) (only_trans (only_setCell (World.grownBy.refl _ _) (.inl rfl) _) ho4),laid blk r m',by rw [← hrL]; exact hx.1,hk4.eq_ ?_⟩
               rw [hx.2,hrL,List.length_append,hml', ← hq, ← hs8]
               done)
            | (have hx:=waits_more L blk m' hw (by rw [hrL,hml']; omega)
               refine ⟨(hs''.only ho2 hA'').only (only_setCell (World.grownBy.refl _ _) (.inl rfl) _) hA'',hA'',only_trans (only_trans ho ho2) (only_setCell (World.grownBy.refl _ _) (.inl rfl) _),laid blk r m',by rw [← hrL]; exact hx.1,((hk2'.set_ 72 _).eq_ (hcells_many s _ q (q+n) HC.out.2.2.2.2.2.2.2)).eq_ ?_⟩
               rw [hx.2,List.length_append,hml', ← hq, ← hs8]
               done)
        case measure=>simp [lenOf']; omega
    · obtain rfl:k=m.length:=by omega
      clear hlt hk
      have hz:m.length - m.length=0:=by omega
      go_wp2
      go_end0
      exact ⟨rfl,ho,⟨blk,by simpa using And.intro hw hb⟩⟩
end Sh
end Go.Proofs.YtgggdbjakcpanaaGreatDoor
