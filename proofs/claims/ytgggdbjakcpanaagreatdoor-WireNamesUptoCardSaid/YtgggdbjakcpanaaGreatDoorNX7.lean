/-
  Texts of ours, put together: WirHH, MSpec, Bits, MCut, Ord2, MNode, MRoot, WirHI, WirHJ, WireNamesL.
-/
import Derived.Test.YtgggdbjakcpanaaGreatDoorNX6
set_option linter.unusedVariables false
set_option linter.unusedSimpArgs false
namespace Go.Proofs.YtgggdbjakcpanaaGreatDoor
section
namespace Wr
open Go.RowKit Sy
set_option maxRecDepth 100000
set_option maxHeartbeats 4000000
def hdNm:ByteArray:=⟨#[116,111,108,108,104,111,117,115,101,47,104,101,97,100,101,114]⟩
def mtNm:ByteArray:=⟨#[116,111,108,108,104,111,117,115,101,47,109,97,105,110,116,120]⟩
def mnNm:ByteArray:=⟨#[116,111,108,108,104,111,117,115,101,47,109,97,105,110]⟩
def gnNm:ByteArray:=⟨#[116,111,108,108,104,111,117,115,101,47,103,101,110,101,115,105,115]⟩
theorem lnPA {p:MPa} (h:∀ k∈p.keys,k.length=32):(encPA p).length≤wtPA p:=by
 have q:=lnL (f:=λd:Byt=>d) (wt:=λ_=>32) (l:=p.keys) (λx hx=>Nat.le_of_eq (h x hx))
 unfold encPA wtPA
 rw [List.length_append]
 show 1+_≤_
 omega
theorem lnHE {h:MHe} (hd:domHE h):(encHE h).length≤wtHE h:=by
 obtain ⟨d1,d2,d3,d4,d5,d6,d7⟩:=hd
 have q1:=nb_len 8 h.height
 have q2:=nb_len 8 h.time
 have q3:=varB_len h.reward.length
 have q4:=lnPA (p:=h.next) (λk hk=>d7.2.2 k hk)
 unfold encHE wtHE
 split <;> simp only [List.length_append,List.length_cons,List.length_nil] <;> omega
theorem lnMH {h:MHd} (h1:h.prev.length=32) (h2:h.root.length=32):(encMH h).length=80:=by
 unfold encMH
 simp only [List.length_append,h1,h2,nb_len]
theorem lnCF {c:MCf} (hd:domCF c):(encCF c).length≤wtCF c:=by
 obtain ⟨d1,d2,d3,d4,d5⟩:=hd
 have q1:=nb_len 8 c.depth
 have q2:=lnPA (p:=c.fed) (λk hk=>d3.2.2 k hk)
 have q3:=lnMH d4.1 d4.2.1
 have q4:=lnL (f:=encOU) (wt:=wtOU) (l:=c.coins) (λx hx=>lnOU (d5.2 x hx))
 unfold encCF wtCF
 simp only [List.length_append]
 omega
theorem lnMT {t:MTx} (h:∀ o∈t.outs,o.claim.length=32):(encMT t).length≤wtMT t:=by
 have q1:=nb_len 8 t.nonce
 have q2:=lnL (f:=encMO) (wt:=λ_=>40) (l:=t.outs) (λx hx=>by
  unfold encMO
  rw [List.length_append,h x hx,nb_len]; decide)
 unfold encMT wtMT
 rw [List.length_append]
 omega
theorem domMT_of {C:Rdr} {cs:List Value} {t:MTx} (h:repMT C cs t):∀ o∈t.outs,o.claim.length=32:=by
 obtain ⟨v,_,_,A,n,cp,_,_,_,_,h5⟩:=h
 intro o ho
 obtain ⟨i,hi⟩:=List.getElem?_of_mem ho
 obtain ⟨g,o',_,hq⟩:=h5 (by intro e; rw [e] at ho; cases ho)
 obtain ⟨cs,_,_,c3,_⟩:=hq i o hi
 exact c3.2.2
theorem domCF_of {C:Rdr} {cs:List Value} {c:MCf} (h:repCF C cs c):domCF c:=by
 obtain ⟨cp,cm,vc,_,h1,h2,⟨v,_,h3⟩,h4,h5⟩:=h
 exact ⟨h1,h2,⟨trivial,lst_dom h3 (λcs x h=>h.2)⟩,⟨h4.2.1,h4.2.2.1,h4.2.2.2.1,h4.2.2.2.2⟩,lst_dom h5 (λcs x h=>domOU_of h)⟩
theorem ge32 (l:List Byt):l.length≤(l.map λ_=>32).sum:=sum_ge1 (λ_=>by decide) l
theorem ge40 (l:List MOut):l.length≤(l.map λ_=>40).sum:=sum_ge1 (λ_=>by decide) l
theorem hdId_any (w:World) (cs:List Value) (x:MHe) (hx:repHE (rdW w) cs x) (hlc:cs.length=102) (hwt:wtHE x≤1000000000) (ht:TbS w):Calls Tryz.prog 14 #[.agg cs.toArray] w (Gets w (.agg ((Sh.taggedS hdNm.data.toList (byE (okHE x) (encHE x))).map bv).toArray)):=by
 obtain ⟨d,hd⟩:∃ d,d=Sh.taggedS hdNm.data.toList (byE (okHE x) (encHE x)):=⟨_,rfl⟩
 have hdl:(d.map bv).length=32:=by rw [List.length_map,hd]; exact tagged_len _ _
 rw [← hd]
 refine Sy.enter (args:=[.agg cs.toArray]) Tryz.func14 rfl kL ?_
 refine sC ?_
 refine sM 34 cs.toArray (λg1=>?_) kR (λw=>run_boxR rfl rfl (by kernel_rfl) hlc w)
 refine sM 28 ((List.replicate 32 (0:UInt8)).map bv).toArray (λg2=>?_)
 refine sA ?_
 have old:∀ {L:Blocks} (w':World),St (Base.of w) w' L→Le (rdW w) (rdW w'):=λw' hw g o u h=>rdC_world (w0:=Base.of w) (R:=[]) hw (λ_ h=>by cases h) g o u (.inl h)
 refine sS (.agg cs.toArray) (Quiet.mid 0 g1 0 102 34 34 cs cs _ _ rfl kR rfl Tryz.underlying34 rfl kR (by rw [List.drop_zero,List.take_of_length_le (by omega)]) (by omega)) ?_
 refine Sy.callN kR 40 #[.agg cs.toArray] kF (BytE (okHE x) (encHE x)) (λw' hw=>ex_hdr (rep:=repHE) monoHE header_w w' cs x (monoHE (old w' hw) hx) hlc (by omega)) (λu M hM=>?_)
 obtain ⟨u,rfl,hb⟩:=hM.uni
 have hb0:=hb
 obtain ⟨Au,nu,cu,rfl,u2,u3,u4,u5⟩:=hb
 refine sp rfl<|sp rfl<|sp rfl<|sp rfl<|sp rfl ?_
 refine sA ?_
 refine sp rfl ?_
 refine Sy.make kR 29 #[.slice Au nu cu] (λg=>.slice (some ⟨g,0,none⟩) 1 1) kF (λg3=>?_)
 have hlen:(encHE x).length≤1000000000:=(Nat.le_trans (lnHE (domHE_of hx)) hwt)
 refine sS (.agg (d.map bv).toArray) (qg (λw' hw=>by
  rw [hd]
  exact tag_one w' hdNm (by decide) g3 (.slice Au nu cu) _ (hb0.le (λg o u h=>rdC_world (R:=M) hw (λb hb=>by simp [hb]) g o u (.inr h))) (hw.blk g3 _ _ (by simp)).2 (lnE hlen) (tbS_st ht hw))) ?_
 refine sw 1 rfl (d.map bv).toArray (Writes.row 28 (d.map bv) 32 _ _ rfl kR kR kR hdl (by simp) (λu hu=>by obtain ⟨b,_,rfl⟩:=List.mem_map.1 hu; rfl)) ?_
 refine sG<|Sy.ret ?_
 exact Sy.ret1 rfl (.inl (Sy.Res.cell (ty':=28) g2 1 (d.map bv).toArray _ rfl rfl Tryz.underlying28 rfl (by rw [List.size_toArray,hdl]; kernel_rfl) rfl))
theorem hdIdR_any (w:World) (cs:List Value) (x:MHe) (hx:repHE (rdW w) cs x) (hlc:cs.length=102) (hwt:wtHE x≤1000000000) (ht:TbR w):Calls Tryz.prog 17 #[.agg cs.toArray] w (Gets w (.agg ((Sh.taggedS hdNm.data.toList (byE (okHE x) (encHE x))).map bv).toArray)):=by
 obtain ⟨d,hd⟩:∃ d,d=Sh.taggedS hdNm.data.toList (byE (okHE x) (encHE x)):=⟨_,rfl⟩
 have hdl:(d.map bv).length=32:=by rw [List.length_map,hd]; exact tagged_len _ _
 rw [← hd]
 refine Sy.enter (args:=[.agg cs.toArray]) Tryz.func17 rfl kL ?_
 refine sC ?_
 refine sM 34 cs.toArray (λg1=>?_) kR (λw=>run_boxR rfl rfl (by kernel_rfl) hlc w)
 refine sM 28 ((List.replicate 32 (0:UInt8)).map bv).toArray (λg2=>?_)
 refine sA ?_
 have old:∀ {L:Blocks} (w':World),St (Base.of w) w' L→Le (rdW w) (rdW w'):=λw' hw g o u h=>rdC_world (w0:=Base.of w) (R:=[]) hw (λ_ h=>by cases h) g o u (.inl h)
 refine sS (.agg cs.toArray) (Quiet.mid 0 g1 0 102 34 34 cs cs _ _ rfl kR rfl Tryz.underlying34 rfl kR (by rw [List.drop_zero,List.take_of_length_le (by omega)]) (by omega)) ?_
 refine Sy.callN kR 45 #[.agg cs.toArray] kF (BytE (okHE x) (encHE x)) (λw' hw=>hedR_w w' x cs (monoHE (old w' hw) hx) (by have:=ge32 x.next.keys; unfold wtHE wtPA at hwt; omega) (by unfold wtHE at hwt; omega)) (λu M hM=>?_)
 obtain ⟨u,rfl,hb⟩:=hM.uni
 have hb0:=hb
 obtain ⟨Au,nu,cu,rfl,u2,u3,u4,u5⟩:=hb
 refine sp rfl<|sp rfl<|sp rfl<|sp rfl<|sp rfl ?_
 refine sA ?_
 refine sp rfl ?_
 refine Sy.make kR 29 #[.slice Au nu cu] (λg=>.slice (some ⟨g,0,none⟩) 1 1) kF (λg3=>?_)
 have hlen:(encHE x).length≤1000000000:=(Nat.le_trans (lnHE (domHE_of hx)) hwt)
 refine sS (.agg (d.map bv).toArray) (qg (λw' hw=>by
  rw [hd]
  exact tagR_one w' hdNm (by decide) g3 (.slice Au nu cu) _ (hb0.le (λg o u h=>rdC_world (R:=M) hw (λb hb=>by simp [hb]) g o u (.inr h))) (hw.blk g3 _ _ (by simp)).2 (lnE hlen) (tbR_st ht hw))) ?_
 refine sw 1 rfl (d.map bv).toArray (Writes.row 28 (d.map bv) 32 _ _ rfl kR kR kR hdl (by simp) (λu hu=>by obtain ⟨b,_,rfl⟩:=List.mem_map.1 hu; rfl)) ?_
 refine sG<|Sy.ret ?_
 exact Sy.ret1 rfl (.inl (Sy.Res.cell (ty':=28) g2 1 (d.map bv).toArray _ rfl rfl Tryz.underlying28 rfl (by rw [List.size_toArray,hdl]; kernel_rfl) rfl))
theorem gnId_any (w:World) (cs:List Value) (x:MCf) (hx:repCF (rdW w) cs x) (hlc:cs.length=102) (hwt:wtCF x≤1000000000) (ht:TbS w):Calls Tryz.prog 21 #[.agg cs.toArray] w (Gets w (.agg ((Sh.taggedS gnNm.data.toList (byE (okCF x) (encCF x))).map bv).toArray)):=by
 obtain ⟨d,hd⟩:∃ d,d=Sh.taggedS gnNm.data.toList (byE (okCF x) (encCF x)):=⟨_,rfl⟩
 have hdl:(d.map bv).length=32:=by rw [List.length_map,hd]; exact tagged_len _ _
 rw [← hd]
 refine Sy.enter (args:=[.agg cs.toArray]) Tryz.func21 rfl kL ?_
 refine sC ?_
 refine sM 56 cs.toArray (λg1=>?_) kR (λw=>run_boxR rfl rfl (by kernel_rfl) hlc w)
 refine sM 28 ((List.replicate 32 (0:UInt8)).map bv).toArray (λg2=>?_)
 refine sA ?_
 have old:∀ {L:Blocks} (w':World),St (Base.of w) w' L→Le (rdW w) (rdW w'):=λw' hw g o u h=>rdC_world (w0:=Base.of w) (R:=[]) hw (λ_ h=>by cases h) g o u (.inl h)
 refine sS (.agg cs.toArray) (Quiet.mid 0 g1 0 102 56 56 cs cs _ _ rfl kR rfl Tryz.underlying56 rfl kR (by rw [List.drop_zero,List.take_of_length_le (by omega)]) (by omega)) ?_
 refine Sy.callN kR 50 #[.agg cs.toArray] kF (BytE (okCF x) (encCF x)) (λw' hw=>ex_cfg (rep:=repCF) monoCF config_w w' cs x (monoCF (old w' hw) hx) hlc (by omega)) (λu M hM=>?_)
 obtain ⟨u,rfl,hb⟩:=hM.uni
 have hb0:=hb
 obtain ⟨Au,nu,cu,rfl,u2,u3,u4,u5⟩:=hb
 refine sp rfl<|sp rfl<|sp rfl<|sp rfl<|sp rfl ?_
 refine sA ?_
 refine sp rfl ?_
 refine Sy.make kR 29 #[.slice Au nu cu] (λg=>.slice (some ⟨g,0,none⟩) 1 1) kF (λg3=>?_)
 have hlen:(encCF x).length≤1000000000:=(Nat.le_trans (lnCF (domCF_of hx)) hwt)
 refine sS (.agg (d.map bv).toArray) (qg (λw' hw=>by
  rw [hd]
  exact tag_one w' gnNm (by decide) g3 (.slice Au nu cu) _ (hb0.le (λg o u h=>rdC_world (R:=M) hw (λb hb=>by simp [hb]) g o u (.inr h))) (hw.blk g3 _ _ (by simp)).2 (lnE hlen) (tbS_st ht hw))) ?_
 refine sw 1 rfl (d.map bv).toArray (Writes.row 28 (d.map bv) 32 _ _ rfl kR kR kR hdl (by simp) (λu hu=>by obtain ⟨b,_,rfl⟩:=List.mem_map.1 hu; rfl)) ?_
 refine sG<|Sy.ret ?_
 exact Sy.ret1 rfl (.inl (Sy.Res.cell (ty':=28) g2 1 (d.map bv).toArray _ rfl rfl Tryz.underlying28 rfl (by rw [List.size_toArray,hdl]; kernel_rfl) rfl))
theorem gnIdR_any (w:World) (cs:List Value) (x:MCf) (hx:repCF (rdW w) cs x) (hlc:cs.length=102) (hwt:wtCF x≤1000000000) (ht:TbR w):Calls Tryz.prog 22 #[.agg cs.toArray] w (Gets w (.agg ((Sh.taggedS gnNm.data.toList (byE (okCF x) (encCF x))).map bv).toArray)):=by
 obtain ⟨d,hd⟩:∃ d,d=Sh.taggedS gnNm.data.toList (byE (okCF x) (encCF x)):=⟨_,rfl⟩
 have hdl:(d.map bv).length=32:=by rw [List.length_map,hd]; exact tagged_len _ _
 rw [← hd]
 refine Sy.enter (args:=[.agg cs.toArray]) Tryz.func22 rfl kL ?_
 refine sC ?_
 refine sM 56 cs.toArray (λg1=>?_) kR (λw=>run_boxR rfl rfl (by kernel_rfl) hlc w)
 refine sM 28 ((List.replicate 32 (0:UInt8)).map bv).toArray (λg2=>?_)
 refine sA ?_
 have old:∀ {L:Blocks} (w':World),St (Base.of w) w' L→Le (rdW w) (rdW w'):=λw' hw g o u h=>rdC_world (w0:=Base.of w) (R:=[]) hw (λ_ h=>by cases h) g o u (.inl h)
 refine sS (.agg cs.toArray) (Quiet.mid 0 g1 0 102 56 56 cs cs _ _ rfl kR rfl Tryz.underlying56 rfl kR (by rw [List.drop_zero,List.take_of_length_le (by omega)]) (by omega)) ?_
 refine Sy.callN kR 51 #[.agg cs.toArray] kF (BytE (okCF x) (encCF x)) (λw' hw=>cfgR_w w' x cs (monoCF (old w' hw) hx) (by have:=ge32 x.fed.keys; unfold wtCF wtPA at hwt; omega) (by have:=sum_ge1 (wt:=wtOU) (λx=>by unfold wtOU; omega) x.coins; unfold wtCF at hwt; omega) (by omega)) (λu M hM=>?_)
 obtain ⟨u,rfl,hb⟩:=hM.uni
 have hb0:=hb
 obtain ⟨Au,nu,cu,rfl,u2,u3,u4,u5⟩:=hb
 refine sp rfl<|sp rfl<|sp rfl<|sp rfl<|sp rfl ?_
 refine sA ?_
 refine sp rfl ?_
 refine Sy.make kR 29 #[.slice Au nu cu] (λg=>.slice (some ⟨g,0,none⟩) 1 1) kF (λg3=>?_)
 have hlen:(encCF x).length≤1000000000:=(Nat.le_trans (lnCF (domCF_of hx)) hwt)
 refine sS (.agg (d.map bv).toArray) (qg (λw' hw=>by
  rw [hd]
  exact tagR_one w' gnNm (by decide) g3 (.slice Au nu cu) _ (hb0.le (λg o u h=>rdC_world (R:=M) hw (λb hb=>by simp [hb]) g o u (.inr h))) (hw.blk g3 _ _ (by simp)).2 (lnE hlen) (tbR_st ht hw))) ?_
 refine sw 1 rfl (d.map bv).toArray (Writes.row 28 (d.map bv) 32 _ _ rfl kR kR kR hdl (by simp) (λu hu=>by obtain ⟨b,_,rfl⟩:=List.mem_map.1 hu; rfl)) ?_
 refine sG<|Sy.ret ?_
 exact Sy.ret1 rfl (.inl (Sy.Res.cell (ty':=28) g2 1 (d.map bv).toArray _ rfl rfl Tryz.underlying28 rfl (by rw [List.size_toArray,hdl]; kernel_rfl) rfl))
theorem mtId_any (w:World) (cs:List Value) (x:MTx) (hx:repMT (rdW w) cs x) (hlc:cs.length=2) (hwt:wtMT x≤1000000000) (ht:TbS w):Calls Tryz.prog 23 #[.agg cs.toArray] w (Gets w (.agg ((Sh.taggedS mtNm.data.toList (byE (okMT x) (encMT x))).map bv).toArray)):=by
 obtain ⟨d,hd⟩:∃ d,d=Sh.taggedS mtNm.data.toList (byE (okMT x) (encMT x)):=⟨_,rfl⟩
 have hdl:(d.map bv).length=32:=by rw [List.length_map,hd]; exact tagged_len _ _
 rw [← hd]
 refine Sy.enter (args:=[.agg cs.toArray]) Tryz.func23 rfl kL ?_
 refine sC ?_
 refine sM 61 cs.toArray (λg1=>?_) kR (λw=>run_boxR rfl rfl (by kernel_rfl) hlc w)
 refine sM 28 ((List.replicate 32 (0:UInt8)).map bv).toArray (λg2=>?_)
 refine sA ?_
 have old:∀ {L:Blocks} (w':World),St (Base.of w) w' L→Le (rdW w) (rdW w'):=λw' hw g o u h=>rdC_world (w0:=Base.of w) (R:=[]) hw (λ_ h=>by cases h) g o u (.inl h)
 refine sS (.agg cs.toArray) (Quiet.mid 0 g1 0 2 61 61 cs cs _ _ rfl kR rfl Tryz.underlying61 rfl kR (by rw [List.drop_zero,List.take_of_length_le (by omega)]) (by omega)) ?_
 refine Sy.callN kR 36 #[.agg cs.toArray] kF (BytE (okMT x) (encMT x)) (λw' hw=>ex_mtx (rep:=repMT) monoMT mainTx_w w' cs x (monoMT (old w' hw) hx) hlc (by omega)) (λu M hM=>?_)
 obtain ⟨u,rfl,hb⟩:=hM.uni
 have hb0:=hb
 obtain ⟨Au,nu,cu,rfl,u2,u3,u4,u5⟩:=hb
 refine sp rfl<|sp rfl<|sp rfl<|sp rfl<|sp rfl ?_
 refine sA ?_
 refine sp rfl ?_
 refine Sy.make kR 29 #[.slice Au nu cu] (λg=>.slice (some ⟨g,0,none⟩) 1 1) kF (λg3=>?_)
 have hlen:(encMT x).length≤1000000000:=(Nat.le_trans (lnMT (domMT_of hx)) hwt)
 refine sS (.agg (d.map bv).toArray) (qg (λw' hw=>by
  rw [hd]
  exact tag_one w' mtNm (by decide) g3 (.slice Au nu cu) _ (hb0.le (λg o u h=>rdC_world (R:=M) hw (λb hb=>by simp [hb]) g o u (.inr h))) (hw.blk g3 _ _ (by simp)).2 (lnE hlen) (tbS_st ht hw))) ?_
 refine sw 1 rfl (d.map bv).toArray (Writes.row 28 (d.map bv) 32 _ _ rfl kR kR kR hdl (by simp) (λu hu=>by obtain ⟨b,_,rfl⟩:=List.mem_map.1 hu; rfl)) ?_
 refine sG<|Sy.ret ?_
 exact Sy.ret1 rfl (.inl (Sy.Res.cell (ty':=28) g2 1 (d.map bv).toArray _ rfl rfl Tryz.underlying28 rfl (by rw [List.size_toArray,hdl]; kernel_rfl) rfl))
theorem mtIdR_any (w:World) (cs:List Value) (x:MTx) (hx:repMT (rdW w) cs x) (hlc:cs.length=2) (hwt:wtMT x≤1000000000) (ht:TbR w):Calls Tryz.prog 24 #[.agg cs.toArray] w (Gets w (.agg ((Sh.taggedS mtNm.data.toList (byE (okMT x) (encMT x))).map bv).toArray)):=by
 obtain ⟨d,hd⟩:∃ d,d=Sh.taggedS mtNm.data.toList (byE (okMT x) (encMT x)):=⟨_,rfl⟩
 have hdl:(d.map bv).length=32:=by rw [List.length_map,hd]; exact tagged_len _ _
 rw [← hd]
 refine Sy.enter (args:=[.agg cs.toArray]) Tryz.func24 rfl kL ?_
 refine sC ?_
 refine sM 61 cs.toArray (λg1=>?_) kR (λw=>run_boxR rfl rfl (by kernel_rfl) hlc w)
 refine sM 28 ((List.replicate 32 (0:UInt8)).map bv).toArray (λg2=>?_)
 refine sA ?_
 have old:∀ {L:Blocks} (w':World),St (Base.of w) w' L→Le (rdW w) (rdW w'):=λw' hw g o u h=>rdC_world (w0:=Base.of w) (R:=[]) hw (λ_ h=>by cases h) g o u (.inl h)
 refine sS (.agg cs.toArray) (Quiet.mid 0 g1 0 2 61 61 cs cs _ _ rfl kR rfl Tryz.underlying61 rfl kR (by rw [List.drop_zero,List.take_of_length_le (by omega)]) (by omega)) ?_
 refine Sy.callN kR 52 #[.agg cs.toArray] kF (BytE (okMT x) (encMT x)) (λw' hw=>by
  obtain ⟨v,e,h1,h2⟩:=monoMT (old w' hw) hx
  rw [e]
  exact mtxR_w w' x v h1 h2 (by have:=ge40 x.outs; unfold wtMT at hwt; omega)) (λu M hM=>?_)
 obtain ⟨u,rfl,hb⟩:=hM.uni
 have hb0:=hb
 obtain ⟨Au,nu,cu,rfl,u2,u3,u4,u5⟩:=hb
 refine sp rfl<|sp rfl<|sp rfl<|sp rfl<|sp rfl ?_
 refine sA ?_
 refine sp rfl ?_
 refine Sy.make kR 29 #[.slice Au nu cu] (λg=>.slice (some ⟨g,0,none⟩) 1 1) kF (λg3=>?_)
 have hlen:(encMT x).length≤1000000000:=(Nat.le_trans (lnMT (domMT_of hx)) hwt)
 refine sS (.agg (d.map bv).toArray) (qg (λw' hw=>by
  rw [hd]
  exact tagR_one w' mtNm (by decide) g3 (.slice Au nu cu) _ (hb0.le (λg o u h=>rdC_world (R:=M) hw (λb hb=>by simp [hb]) g o u (.inr h))) (hw.blk g3 _ _ (by simp)).2 (lnE hlen) (tbR_st ht hw))) ?_
 refine sw 1 rfl (d.map bv).toArray (Writes.row 28 (d.map bv) 32 _ _ rfl kR kR kR hdl (by simp) (λu hu=>by obtain ⟨b,_,rfl⟩:=List.mem_map.1 hu; rfl)) ?_
 refine sG<|Sy.ret ?_
 exact Sy.ret1 rfl (.inl (Sy.Res.cell (ty':=28) g2 1 (d.map bv).toArray _ rfl rfl Tryz.underlying28 rfl (by rw [List.size_toArray,hdl]; kernel_rfl) rfl))
theorem mnId_any (w:World) (cs:List Value) (x:MHd) (hx:repMH (rdW w) cs x) (ht:TbS w):Calls Tryz.prog 19 #[.agg cs.toArray] w (Gets w (.agg ((Sh.taggedS mnNm.data.toList (encMH x)).map bv).toArray)):=by
 have hlc:cs.length=66:=by
  obtain ⟨e,h1,h2,_⟩:=hx
  rw [e]; simp [h1,h2]
 have hle:(encMH x).length=80:=lnMH hx.2.1 hx.2.2.1
 obtain ⟨d,hd⟩:∃ d,d=Sh.taggedS mnNm.data.toList (encMH x):=⟨_,rfl⟩
 have hdl:(d.map bv).length=32:=by rw [List.length_map,hd]; exact tagged_len _ _
 rw [← hd]
 refine Sy.enter (args:=[.agg cs.toArray]) Tryz.func19 rfl kL ?_
 refine sC ?_
 refine sM 54 cs.toArray (λg1=>?_) kR (λw=>run_boxR rfl rfl (by kernel_rfl) hlc w)
 refine sM 28 ((List.replicate 32 (0:UInt8)).map bv).toArray (λg2=>?_)
 refine sA ?_
 refine sS (.agg cs.toArray) (Quiet.mid 0 g1 0 66 54 54 cs cs _ _ rfl kR rfl Tryz.underlying54 rfl kR (by rw [List.drop_zero,List.take_of_length_le (by omega)]) (by omega)) ?_
 refine Sy.callN kR 48 #[.agg cs.toArray] kF (ByN (encMH x)) (λw' hw=>ex_mhd (rep:=repMH) (ok:=λ_=>true) (enc:=encMH) (wt:=λ_=>80) monoMH mainHeader_w w' cs x (monoMH (λg o u h=>rdC_world (w0:=Base.of w) (R:=[]) hw (λ_ h=>by cases h) g o u (.inl h)) hx) hlc rfl (by decide)) (λu M hM=>?_)
 have hb:=ByN.bytes hM
 have hb0:=hb
 obtain ⟨Au,nu,cu,rfl,u2,u3,u4,u5⟩:=hb
 refine Sy.make kR 29 #[.slice Au nu cu] (λg=>.slice (some ⟨g,0,none⟩) 1 1) kF (λg3=>?_)
 refine sS (.agg (d.map bv).toArray) (qg (λw' hw=>by
  rw [hd]
  exact tag_one w' mnNm (by decide) g3 (.slice Au nu cu) _ (hb0.le (λg o u h=>rdC_world (R:=M) hw (λb hb=>by simp [hb]) g o u (.inr h))) (hw.blk g3 _ _ (by simp)).2 (by omega) (tbS_st ht hw))) ?_
 refine sw 1 rfl (d.map bv).toArray (Writes.row 28 (d.map bv) 32 _ _ rfl kR kR kR hdl (by simp) (λu hu=>by obtain ⟨b,_,rfl⟩:=List.mem_map.1 hu; rfl)) ?_
 refine sG<|Sy.ret ?_
 exact Sy.ret1 rfl (.inl (Sy.Res.cell (ty':=28) g2 1 (d.map bv).toArray _ rfl rfl Tryz.underlying28 rfl (by rw [List.size_toArray,hdl]; kernel_rfl) rfl))
theorem mnIdR_any (w:World) (cs:List Value) (x:MHd) (hx:repMH (rdW w) cs x) (ht:TbR w):Calls Tryz.prog 20 #[.agg cs.toArray] w (Gets w (.agg ((Sh.taggedS mnNm.data.toList (encMH x)).map bv).toArray)):=by
 have hlc:cs.length=66:=by
  obtain ⟨e,h1,h2,_⟩:=hx
  rw [e]; simp [h1,h2]
 have hle:(encMH x).length=80:=lnMH hx.2.1 hx.2.2.1
 obtain ⟨d,hd⟩:∃ d,d=Sh.taggedS mnNm.data.toList (encMH x):=⟨_,rfl⟩
 have hdl:(d.map bv).length=32:=by rw [List.length_map,hd]; exact tagged_len _ _
 rw [← hd]
 refine Sy.enter (args:=[.agg cs.toArray]) Tryz.func20 rfl kL ?_
 refine sC ?_
 refine sM 54 cs.toArray (λg1=>?_) kR (λw=>run_boxR rfl rfl (by kernel_rfl) hlc w)
 refine sM 28 ((List.replicate 32 (0:UInt8)).map bv).toArray (λg2=>?_)
 refine sA ?_
 refine sS (.agg cs.toArray) (Quiet.mid 0 g1 0 66 54 54 cs cs _ _ rfl kR rfl Tryz.underlying54 rfl kR (by rw [List.drop_zero,List.take_of_length_le (by omega)]) (by omega)) ?_
 refine Sy.callN kR 49 #[.agg cs.toArray] kF (ByN (encMH x)) (λw' hw=>by
  obtain ⟨e,h1,h2,h3,h4⟩:=hx
  rw [e]
  exact mhdR_w w' x h1 h2 h3 h4) (λu M hM=>?_)
 have hb:=ByN.bytes hM
 have hb0:=hb
 obtain ⟨Au,nu,cu,rfl,u2,u3,u4,u5⟩:=hb
 refine Sy.make kR 29 #[.slice Au nu cu] (λg=>.slice (some ⟨g,0,none⟩) 1 1) kF (λg3=>?_)
 refine sS (.agg (d.map bv).toArray) (qg (λw' hw=>by
  rw [hd]
  exact tagR_one w' mnNm (by decide) g3 (.slice Au nu cu) _ (hb0.le (λg o u h=>rdC_world (R:=M) hw (λb hb=>by simp [hb]) g o u (.inr h))) (hw.blk g3 _ _ (by simp)).2 (by omega) (tbR_st ht hw))) ?_
 refine sw 1 rfl (d.map bv).toArray (Writes.row 28 (d.map bv) 32 _ _ rfl kR kR kR hdl (by simp) (λu hu=>by obtain ⟨b,_,rfl⟩:=List.mem_map.1 hu; rfl)) ?_
 refine sG<|Sy.ret ?_
 exact Sy.ret1 rfl (.inl (Sy.Res.cell (ty':=28) g2 1 (d.map bv).toArray _ rfl rfl Tryz.underlying28 rfl (by rw [List.size_toArray,hdl]; kernel_rfl) rfl))
end Wr
end
section
namespace Sh
open Go.RowKit Sp
def leafNm:ByteArray:=⟨#[116,111,108,108,104,111,117,115,101,47,108,101,97,102]⟩
def nodeNm:ByteArray:=⟨#[116,111,108,108,104,111,117,115,101,47,110,111,100,101]⟩
def noneNm:ByteArray:=⟨#[116,111,108,108,104,111,117,115,101,47,110,111,110,101]⟩
def leafS (b:List UInt8):List UInt8:=taggedS leafNm.data.toList b
def nodeS (l r:List UInt8):List UInt8:=taggedS nodeNm.data.toList (l++r)
def noneS:List UInt8:=taggedS noneNm.data.toList []
theorem nodeS_length (l r:List UInt8):(nodeS l r).length=32:=sum_length _
theorem leafS_length (b:List UInt8):(leafS b).length=32:=sum_length _
theorem noneS_length:noneS.length=32:=sum_length _
def cut (n:Nat):Nat:=2 ^ (Lib.bitLen (n - 1) - 1)
theorem bitLen_pow (k:Nat):∀ (x:Nat),2 ^ k≤x→x<2 ^ (k+1)→k+1≤64→Lib.bitLen x=k+1:=by
 induction k with
 | zero =>
  intro x h1 h2 _
  have:x=1:=by simp at h1 h2; omega
  subst this
  decide
 | succ k ih =>
  intro x h1 h2 h3
  have h0:0<2 ^ k:=Nat.two_pow_pos k
  have p1:2 ^ (k+1)=2*2 ^ k:=by rw [Nat.pow_succ]; omega
  have p2:2 ^ (k+1+1)=2*(2*2 ^ k):=by rw [Nat.pow_succ,p1]; omega
  have h64:x<2 ^ 64:=Nat.lt_of_lt_of_le h2 (Nat.pow_le_pow_right (by omega) h3)
  rw [Lib.bitLen_half x (by omega) h64,ih (x / 2) (by omega) (by omega) (by omega)]
  omega
theorem pow_at (x:Nat) (hx:0<x):∃ k,2 ^ k≤x∧x<2 ^ (k+1):=⟨Nat.log2 x,Nat.log2_self_le (by omega),Nat.lt_log2_self⟩
theorem cut_is (n k:Nat) (h1:2 ^ k<n) (h2:n≤2 ^ (k+1)) (h3:k+1≤64):cut n=2 ^ k:=by
 have h0:0<2 ^ k:=Nat.two_pow_pos k
 unfold cut
 rw [bitLen_pow k (n - 1) (by omega) (by omega) h3,Nat.add_sub_cancel]
theorem cut_spec (n:Nat) (hn:2≤n) (hm:n≤2 ^ 62):0<cut n∧cut n<n∧n≤2*cut n∧∃ k,cut n=2 ^ k∧k≤61:=by
 obtain ⟨k,hk1,hk2⟩:=pow_at (n - 1) (by omega)
 have h0:0<2 ^ k:=Nat.two_pow_pos k
 have p1:2 ^ (k+1)=2*2 ^ k:=by rw [Nat.pow_succ]; omega
 have hk:k≤61:=by
  rcases Nat.lt_or_ge 61 k with h | h
  ·have:2 ^ 62≤2 ^ k:=Nat.pow_le_pow_right (by omega) h
   omega
  ·exact h
 rw [cut_is n k (by omega) (by omega) (by omega)]
 exact ⟨h0,by omega,by omega,k,rfl,hk⟩
def All32 (ds:List (List UInt8)):Prop:=∀ d∈ds,d.length=32
theorem All32.take {ds:List (List UInt8)} (h:All32 ds) (k:Nat):All32 (ds.take k):=λd hd=>h d (List.mem_of_mem_take hd)
theorem All32.drop {ds:List (List UInt8)} (h:All32 ds) (k:Nat):All32 (ds.drop k):=λd hd=>h d (List.mem_of_mem_drop hd)
def rootF:Nat→List (List UInt8)→List UInt8
 | 0,ds=>ds.headD noneS
 | f+1,ds=>if 2≤ds.length then nodeS (rootF f (ds.take (cut ds.length))) (rootF f (ds.drop (cut ds.length))) else ds.headD noneS
def rootS (ds:List (List UInt8)):List UInt8:=rootF ds.length ds
theorem rootF_more:∀ (f g:Nat) (ds:List (List UInt8)),ds.length≤f→ds.length≤g→ds.length≤2 ^ 62→rootF f ds=rootF g ds
 | 0,0,_,_,_,_=>rfl
 | 0,g+1,ds,h,_,_=>by rw [rootF,rootF,if_neg (by omega)]
 | f+1,0,ds,_,h,_=>by rw [rootF,rootF,if_neg (by omega)]
 | f+1,g+1,ds,hf,hg,hm=>by
  rw [rootF,rootF]
  by_cases h2:2≤ds.length
  ·obtain ⟨c0,c1,_⟩:=cut_spec ds.length h2 hm
   rw [if_pos h2,if_pos h2,rootF_more f g (ds.take _) (by rw [List.length_take]; omega) (by rw [List.length_take]; omega) (by rw [List.length_take]; omega),
    rootF_more f g (ds.drop _) (by rw [List.length_drop]; omega) (by rw [List.length_drop]; omega) (by rw [List.length_drop]; omega)]
  ·rw [if_neg h2,if_neg h2]
theorem rootS_two (ds:List (List UInt8)) (h:2≤ds.length) (hm:ds.length≤2 ^ 62):rootS ds=nodeS (rootS (ds.take (cut ds.length))) (rootS (ds.drop (cut ds.length))):=by
 obtain ⟨c0,c1,_⟩:=cut_spec ds.length h hm
 obtain ⟨f,hf⟩:∃ f,ds.length=f+1:=⟨ds.length - 1,by omega⟩
 unfold rootS
 conv=>lhs; rw [hf,rootF,if_pos h]
 rw [rootF_more f _ (ds.take _) (by rw [List.length_take]; omega) (Nat.le_refl _) (by rw [List.length_take]; omega),rootF_more f _ (ds.drop _) (by rw [List.length_drop]; omega) (Nat.le_refl _) (by rw [List.length_drop]; omega)]
theorem rootS_one (d:List UInt8):rootS [d]=d:=by simp [rootS,rootF]
theorem rootF_length:∀ (f:Nat) (ds:List (List UInt8)),All32 ds→(rootF f ds).length=32
 | 0,ds,h=>by
  cases ds with
  | nil=>exact noneS_length
  | cons d r=>exact h d (by simp)
 | f+1,ds,h=>by
  rw [rootF]
  by_cases h2:2≤ds.length
  ·rw [if_pos h2]; exact nodeS_length _ _
  ·rw [if_neg h2]
   cases ds with
   | nil=>exact noneS_length
   | cons d r=>exact h d (by simp)
theorem rootS_length (ds:List (List UInt8)) (h:All32 ds):(rootS ds).length=32:=rootF_length _ ds h
end Sh
end
section
namespace Sh
open Go.Shelf Go.Proofs
def bitsLen_lays_ren:Go.Shelf.Ren:=⟨λ| 125=>201 | 128=>236 | 129=>237 | n=>n,λ| 46=>118 | 3=>3 | 51=>67 | 53=>22 | 4=>4 | 5=>5 | 9=>9 | n=>n,λ| n=>n⟩
theorem bitsLen_lays:Go.Proofs.Lays.n125 Tryz.prog bitsLen_lays_ren:={
 mixed:=by kernel_rfl
 f125:=Tryz.func201.trans (congrArg some (by kernel_rfl))
 f128:=Tryz.func236.trans (congrArg some (by kernel_rfl))
 f129:=Tryz.func237.trans (congrArg some (by kernel_rfl))
 t3:=Tryz.underlying3
 a3:=Tryz.isAgg3
 z3:=Tryz.sizeOf3
 v3:=Tryz.zeroValue3
 t4:=Tryz.underlying4
 a4:=Tryz.isAgg4
 z4:=Tryz.sizeOf4
 v4:=Tryz.zeroValue4
 t5:=Tryz.underlying5
 a5:=Tryz.isAgg5
 z5:=Tryz.sizeOf5
 v5:=Tryz.zeroValue5
 t9:=Tryz.underlying9
 a9:=Tryz.isAgg9
 z9:=Tryz.sizeOf9
 v9:=Tryz.zeroValue9
 t46:=Tryz.underlying118
 a46:=Tryz.isAgg118
 z46:=Tryz.sizeOf118
 v46:=Tryz.zeroValue118
 t51:=Tryz.underlying67
 a51:=Tryz.isAgg67
 z51:=Tryz.sizeOf67
 v51:=Tryz.zeroValue67
 t53:=Tryz.underlying22
 a53:=Tryz.isAgg22
 z53:=Tryz.sizeOf22
 v53:=Tryz.zeroValue22 }
theorem bitsLen_any (x:Int) (w:World) (h0:0≤x) (h1:x≤18446744073709551615) :
  Calls Tryz.prog 201 #[.int .u64 x] w λe w'=>e=.returned (.int .i64 (Lib.bitLen x.toNat))∧w'=w:=Any.bits_Len bitsLen_lays x w h0 h1
end Sh
end
section
namespace Sh
open Go.RowKit Sp
set_option maxHeartbeats 400000 in
theorem split_any (n:Nat) (w:World) (h2:2≤n) (hm:n≤4294967296):Calls Tryz.prog 144 #[.int .i64 n] w λe w'=>e=.returned (.int .i64 (cut n))∧w=w':=by
 have hn1:(2:Int)≤(n:Int):=by omega
 have hn2:(n:Int)≤4294967296:=by omega
 have hb1:Lib.bitLen (n - 1)≤33:=Lib.bitLen_le _ 33 (by omega) (by omega)
 have hb0:1≤Lib.bitLen (n - 1):=by
  rw [Lib.bitLen_half _ (by omega) (by omega)]; omega
 have hx:((n:Int) - 1).toNat=n - 1:=by omega
 obtain ⟨q,hq⟩:∃ q,q=Lib.bitLen (n - 1):=⟨_,rfl⟩
 rw [← hq] at hb1 hb0
 have HQ:=Lib.hid (And.intro hx hq)
 clear hx hq
 go_enter Tryz.func144,Tryz.ntmps144
 go_wp2_with fail
 refine (bitsLen_any ((n:Int) - 1) _ (by omega) (by omega)).mono ?_
 rintro e w1 ⟨rfl,rfl⟩
 rw [HQ.out.1, ← HQ.out.2]
 go_wp2
 have hw:wrap64 ((2:Int) ^ (q - 1))=(cut n:Int):=by
  have h1:(2:Nat) ^ (q - 1)≤2 ^ 32:=Nat.pow_le_pow_right (by omega) (by omega)
  have h3:((2:Int) ^ (q - 1))=((2 ^ (q - 1):Nat):Int):=by simp
  have h4:cut n=2 ^ (q - 1):=by unfold cut; rw [← HQ.out.2]
  rw [h3,h4,IntWalk.wrap64_in _ (by constructor <;> omega)]
 go_ret
 exact ⟨by simp only [Array.getD]; exact congrArg (λz=>Ending.returned (Value.int .i64 z)) hw,rfl⟩
set_option maxHeartbeats 400000 in
theorem refCut_any (n:Nat) (w:World) (h2:2≤n) (hm:n≤4294967296):Calls Tryz.prog 86 #[.int .i64 n] w λe w'=>e=.returned (.int .i64 (cut n))∧w=w':=by
 have hn1:(2:Int)≤(n:Int):=by omega
 have hn2:(n:Int)≤4294967296:=by omega
 go_enter Tryz.func86,Tryz.ntmps86
 go_wp2
 go_loop [3] (λv=>∃ (j p:Nat),Hid (p=2 ^ j∧j≤31)∧p<n∧1≤p∧v=.int .i64 p) (λv=>n - (RowKit.intOf v).toNat)
 case atStart=>exact ⟨0,1,Lib.hid ⟨rfl,by omega⟩,by omega,by omega,rfl⟩
 case round =>
  obtain ⟨j,p,hp,hpn,hp1,rfl⟩:=hrel
  have hpi:(p:Int)≤4294967296:=by omega
  have hpi0:(1:Int)≤(p:Int):=by omega
  by_cases hlt:2*p<n
  ·go_wp2
   go_round
   case rel =>
    refine ⟨j+1,2*p,Lib.hid ⟨by rw [hp.out.1,Nat.pow_succ]; omega,?_⟩,by omega,by omega,by go_num⟩
    rcases Nat.lt_or_ge 31 (j+1) with h | h
    ·have h1:2 ^ 32≤2 ^ (j+1):=Nat.pow_le_pow_right (by omega) h
     have h3:2 ^ (j+1)=2*2 ^ j:=by rw [Nat.pow_succ]; omega
     rw [← hp.out.1] at h3
     omega
    ·exact h
   case measure=>simp [RowKit.intOf]; omega
  ·have hc:cut n=p:=by
    rw [hp.out.1]
    exact cut_is n j (by rw [← hp.out.1]; exact hpn) (by rw [Nat.pow_succ, ← hp.out.1]; omega) (by have:=hp.out.2; omega)
   have HC:=Lib.hid hc
   clear hc
   go_wp2
   go_ret
   exact ⟨by rw [HC.out]; rfl,rfl⟩
def DSrc (w:World) (A:Option Addr) (ds:List (List UInt8)):Prop:=All32 ds∧(ds≠[]→∃ b o,A=some ⟨b,o,none⟩∧b<w.heap.size∧∀ j d,ds[j]? = some d→w.rangeAt b (o+j*32) (d.map bv))
theorem DSrc.below {w w':World} {A:Option Addr} {ds:List (List UInt8)} (h:DSrc w A ds) (hb:Below w.heap.size w w'):DSrc w' A ds :=
 ⟨h.1,λhne=>by
  obtain ⟨b,o,e,hlt,hc⟩:=h.2 hne
  exact ⟨b,o,e,Nat.lt_of_lt_of_le hlt hb.size,λj d hd i v hi=>(hb.cell (p:=⟨b,o+j*32+i,none⟩) hlt).trans (hc j d hd i v hi)⟩⟩
theorem DSrc.take {w:World} {A:Option Addr} {ds:List (List UInt8)} (h:DSrc w A ds) (k:Nat):DSrc w A (ds.take k) :=
 ⟨h.1.take k,λhne=>by
  obtain ⟨b,o,e,hlt,hc⟩:=h.2 (λe=>hne (by rw [e]; simp))
  exact ⟨b,o,e,hlt,λj d hd=>hc j d (by
   rw [List.getElem?_take] at hd
   split at hd
   ·exact hd
   ·cases hd)⟩⟩
theorem DSrc.drop {w:World} {b o:Nat} {ds:List (List UInt8)} (h:DSrc w (some ⟨b,o,none⟩) ds) (k:Nat):DSrc w (some ⟨b,o+k*32,none⟩) (ds.drop k) :=
 ⟨h.1.drop k,λhne=>by
  obtain ⟨b',o',e,hlt,hc⟩:=h.2 (λe=>hne (by rw [e]; simp))
  injection e with e
  injection e with e1 e2
  subst e1 e2
  exact ⟨b,o+k*32,rfl,hlt,λj d hd=>by
   rw [List.getElem?_drop] at hd
   have:=hc (k+j) d hd
   rwa [Nat.add_mul, ← Nat.add_assoc] at this⟩⟩
set_option maxHeartbeats 1000000 in
set_option maxRecDepth 100000 in
theorem halves_any (w:World) (b o n c:Nat) (h2:2≤n) (hm:n≤4294967296) (hc:n≤c) :
  Calls Tryz.prog 81 #[.slice (some ⟨b,o,none⟩) n c] w λe w'=>e=.returned (.tuple #[.slice (some ⟨b,o,none⟩) (cut n) (cut n),.slice (some ⟨b,o+cut n*32,none⟩) (n - cut n) (n - cut n)])∧Below w.heap.size w w':=by
 obtain ⟨c0,c1,c2,_⟩:=cut_spec n h2 (by omega)
 obtain ⟨k,hk⟩:∃ k,k=cut n:=⟨_,rfl⟩
 rw [← hk] at c0 c1 c2
 rw [← hk]
 have HK:=Lib.hid hk
 clear hk
 have a1:(0:Int)≤(k:Int):=by omega
 have a2:(k:Int)≤(n:Int):=by omega
 have a3:(n:Int)≤(c:Int):=by omega
 have a4:(k:Int)≤(c:Int):=by omega
 have a5:(0:Int)≤(n:Int):=by omega
 go_enter Tryz.func81,Tryz.ntmps81
 go_wp2_with fail
 refine (split_any n _ h2 hm).mono ?_
 rintro e w1 ⟨rfl,rfl⟩
 rw [← HK.out]
 go_wp2
 refine wp_region_G (λ_=>false) (by kernel_rfl) ?_
 refine tk 0 rfl ?_
 try simp only [Act.put,aA,aZ,aS]
 refine tk 1 rfl ?_
 try simp only [Act.put,aA,aZ,aS]
 refine tk 2 rfl ?_
 try simp only [Act.put,aA,aZ,aS]
 refine tk 3 rfl ?_
 try simp only [Act.put,aA,aZ,aS]
 refine tk 4 rfl ?_
 try simp only [Act.put,aA,aZ,aS]
 refine tk 5 rfl ?_
 try simp only [Act.put,aA,aZ,aS]
 refine tk 6 rfl ?_
 try simp only [Act.put,aA,aZ,aS]
 refine tk 7 rfl ?_
 try simp only [Act.put,aA,aZ,aS]
 refine tk 8 rfl ?_
 try simp only [Act.put,aA,aZ,aS]
 refine tk 9 rfl ?_
 try simp only [Act.put,aA,aZ,aS]
 refine tk 10 rfl ?_
 try simp only [Act.put,aA,aZ,aS]
 refine tk 11 rfl ?_
 try simp only [Act.put,aA,aZ,aS]
 refine tk 12 rfl ?_
 try simp only [Act.put,aA,aZ,aS]
 refine wpAnyG_done (by kernel_rfl) (λw5 h5=>?_)
 go_wp2
 go_ret2
 exact ⟨rfl,h5⟩
end Sh
end
section
namespace Sh
open Go.RowKit Sp
theorem Gr.blk {w w':World} (h:Gr w w') {g:Nat} {t:TypeId} {cs:Array Value} (hg:Blk w g t cs):Blk w' g t cs:=Blk.below hg h hg.lt
section
variable {P:Program} {ops:Array Oper} {Q:Exit→Act→World→Prop} {md:Region.Mode} {ex:Nat→Bool}
theorem wpAnyG_store (i:Nat) {oi:Oper} {fuel:Nat} {listed:Array Bool} {a:Act} {w:World} (hi0:ops.toList[i]? = some oi) (hr:Region.ready md ops listed=[i])
  (hw:Region.wanted oi (yielded ops a.tmps)=true) (ty:TypeId) (x y:Operand) (ho:oi.op=.store ty x y) (g:Nat) (cells:Array Value) (hx:a.eval x=.pointer (some ⟨g,0,none⟩)) (hy:a.eval y=.agg cells)
  (t:TypeId) (c:Array Value) (hg:Blk w g t c) (hi:(P.info? ty).map (·.size)=some cells.size) (hold:c.size=cells.size) (h1:cells.all (·.oneCell')=true) (hex:ex i=true)
  (h:∀ w1,Gr w w1→∀ w2,(∀ B,B≤g→Below B w1 w2)→Blk w2 g t cells→wpAnyG P md ops Q ex fuel (listed.setIfInBounds i true) (a.put oi.dst undef) w2) :
  wpAnyG P md ops Q ex (fuel+1) listed a w :=
 wpAnyG_sole i hi0 hr hw (λw1 hw1 K hK=>wp_store_row ty x y ho g cells hx hy t c (Gr.blk hw1 hg) hi hold h1
  (hK _ _ (λe=>by rw [hex] at e; cases e) (h w1 hw1 _ (λB hB=>below_setRow (Below.refl _ _) hB _) ((Gr.blk hw1 hg).setRow cells))))
end
theorem texts_list {W:World} (N:Nat) (hN:W.heap.size=N) (ts:List Tx) (t:TypeId) (cs:Array Value) (hcs:cs=(ts.map Tx.val).toArray) (h:∀ x∈ts,x.ok W):Texts (W.alloc (.cells cs t)) (some ⟨N,0,none⟩) ts:=λ_ =>
 ⟨N,0,rfl,by rw [← hN]; simp,λj y hy=>by
  subst hcs hN
  rw [Nat.zero_add]
  exact ⟨(cell_of_row _ _ j _ t _ (heap_alloc_new W _)).trans (by simp [hy]),(h y (List.mem_of_getElem? hy)).below ((Below.refl _ _).alloc (Nat.le_refl _) _)⟩⟩
end Sh
end
section
namespace Sh
open Go.RowKit Sp
theorem dig_size {l:List UInt8} (h:l.length=32):(l.map bv).toArray.size=32:=by rw [List.size_toArray,List.length_map,h]
theorem dig_info {l:List UInt8} (h:l.length=32):(Tryz.prog.info? 28).map (·.size)=some (l.map bv).toArray.size:=by rw [dig_size h]; kernel_rfl
theorem dig_info' {l:List UInt8} (h:l.length=32):(Tryz.prog.info? 28).map (·.size)=some (l.map bv).length:=by rw [List.length_map,h]; kernel_rfl
theorem dig_one (l:List UInt8):(l.map bv).toArray.all (·.oneCell')=true:=by simp [bv,Value.oneCell']
theorem cat_one (x:Tx):cat [x]=x.l:=by simp [cat]
theorem cat_two (x y:Tx):cat [x,y]=x.l++y.l:=by simp [cat]
theorem below_alloc3 (w:World) (o o' o'':Obj):Below w.heap.size w (((w.alloc o).alloc o').alloc o''):=(below_alloc2 w o o').alloc (by simp; omega) _
theorem blk_new3 (w:World) (o o':Obj) (t:TypeId) (cs:Array Value):Blk (((w.alloc o).alloc o').alloc (.cells cs t)) (w.heap.size+2) t cs:=by
 have h:=Blk.new ((w.alloc o).alloc o') t cs
 have e:((w.alloc o).alloc o').heap.size=w.heap.size+2:=by simp
 rwa [e] at h
theorem Below.gr {w a b:World} (h:Below w.heap.size w a) (g:Gr a b):Below w.heap.size w b:=Below.trans h (Below.mono g (Below.size h))
set_option maxHeartbeats 1000000 in
set_option maxRecDepth 100000 in
theorem node_any (w:World) (l r:List UInt8) (hl:l.length=32) (hr:r.length=32) (ht:TabAt w 1) :
  Calls Tryz.prog 82 #[.agg (l.map bv).toArray,.agg (r.map bv).toArray] w λe w'=>e=.returned (dv (nodeS l r))∧Below w.heap.size w w':=by
 have HC:=Lib.hid ht
 have htl:=ht.lt
 have HL:=Lib.hid (And.intro hl hr)
 have hsl:=slice_all
 clear ht hl hr
 go_enter Tryz.func82,Tryz.ntmps82
 go_wp2
 refine wp_region_G (λj=>j == 4) (by kernel_rfl) ?_
 refine tk 0 rfl ?_
 try simp only [Act.put,aA,aZ,aS]
 refine tk 1 rfl ?_
 try simp only [Act.put,aA,aZ,aS]
 refine wpAnyG_sole 2 rfl (by kernel_rfl) (by rfl) (λw3 h3 K hK=>?_)
 go_simp
 refine hK _ _ (λ_=>gr_alloc _ _) ?_
 clear hK K
 try simp only [Act.put,aA,aZ,aS]
 have hA:Blk w3 w.heap.size 28 (l.map bv).toArray:=Gr.blk h3 (((Blk.new w _ _).alloc _).alloc _)
 have hB:Blk w3 (w.heap.size+1) 28 (r.map bv).toArray:=Gr.blk h3 (Blk.alloc (heap_alloc2_new w _ _) _)
 have hx1:(Tx.mk (some ⟨w.heap.size,0,none⟩) l 32).ok w3:=⟨Src.of_blk hA,by show l.length≤32; rw [HL.out.1]; exact Nat.le_refl _,by show (32:Nat)≤_; omega⟩
 have hx2:(Tx.mk (some ⟨w.heap.size+1,0,none⟩) r 32).ok w3:=⟨Src.of_blk hB,by show r.length≤32; rw [HL.out.2]; exact Nat.le_refl _,by show (32:Nat)≤_; omega⟩
 have hT:=texts_list (W:=w3) _ rfl [Tx.mk (some ⟨w.heap.size,0,none⟩) l 32,Tx.mk (some ⟨w.heap.size+1,0,none⟩) r 32] 29 #[.slice (some ⟨w.heap.size,0,none⟩) 32 32,.slice (some ⟨w.heap.size+1,0,none⟩) 32 32]
  (by simp only [Tx.val,List.map_cons,List.map_nil,HL.out.1,HL.out.2]) (λx hx=>by simp at hx; rcases hx with rfl | rfl <;> assumption)
 have hR:Blk w3 (w.heap.size+2) 28 _:=Gr.blk h3 (blk_new3 w _ _ _ _)
 have hb3:=Below.gr (below_alloc3 w _ _ _) h3
 have HT:=Lib.hid hT
 clear hA hB hx1 hx2 hT
 refine tkw 3 rfl (YieldsG.call (v:=.agg ((nodeS l r).map bv).toArray) (by rfl) 33 _ (λw9=>by go_simp; try (first | with_reducible rfl | rfl)) (λw9 h9=>calls_dv (tagged_any w9 nodeNm _ [Tx.mk (some ⟨w.heap.size,0,none⟩) l 32,Tx.mk (some ⟨w.heap.size+1,0,none⟩) r 32] 2 (HT.out.below h9) (HC.out.below (Below.gr hb3 ((gr_alloc _ _).trans h9)) htl) (by decide) (by rw [cat_two]; simp only [List.length_append,HL.out.1,HL.out.2]; omega) (by simp)) (by rw [cat_two]; rfl))) ?_
 try simp only [Act.put,aA,aZ,aS]
 refine wpAnyG_store 4 rfl (by kernel_rfl) (by rfl) _ _ _ rfl (w.heap.size+2) (((nodeS l r).map bv).toArray) rfl rfl _ _ (hR.alloc _) (dig_info (nodeS_length l r)) (by rw [dig_size (nodeS_length l r)]; rfl) (dig_one _) rfl (λw6 h6 w7 hB7 hL7=>?_)
 try simp only [Act.put]
 refine wpAnyG_done (by kernel_rfl) (λw8 h8=>?_)
 have hfin:=Gr.blk h8 hL7
 have hb9:=(Below.gr hb3 ((gr_alloc _ _).trans h6)).trans ((hB7 _ (by omega)).trans (Below.mono h8 (by have:=hL7.lt; omega)))
 go_wp2
 exact bodyPost_ret (results_cell_row rfl _ _ (w.heap.size+2) 28 _ (0,0) _ rfl hfin Tryz.underlying28 rfl (dig_info (nodeS_length l r))) rfl ⟨rfl,hb9⟩
set_option maxHeartbeats 1000000 in
set_option maxRecDepth 100000 in
theorem leaf_any (w:World) (A:Option Addr) (m:List UInt8) (c:Nat) (hs:Src w A m) (hc:m.length≤c) (hcm:c≤9223372036854775807) (hm:m.length≤1000000000) (ht:TabAt w 1) :
  Calls Tryz.prog 41 #[.slice A m.length c] w λe w'=>e=.returned (dv (leafS m))∧Below w.heap.size w w':=by
 have HC:=Lib.hid ht
 have htl:=ht.lt
 have HT:=Lib.hid (And.intro hs (And.intro hc hcm))
 clear ht hs hc hcm
 go_enter Tryz.func41,Tryz.ntmps41
 go_wp2_with fail
 refine (tagged_any _ leafNm (some ⟨w.heap.size+1,0,none⟩) [Tx.mk A m c] 1 (texts_list (w.heap.size+1) (by simp) [Tx.mk A m c] _ _ rfl (λx hx=>by simp at hx; subst hx; exact ⟨HT.out.1.below ((Below.refl _ _).alloc (Nat.le_refl _) _),HT.out.2⟩)) (HC.out.below (below_alloc2 w _ _) htl) (by decide) (by rw [cat_one]; exact hm) (by simp)).mono ?_
 rintro e w1 ⟨rfl,hb1⟩
 have hr:=Blk.below ((Blk.new w _ _).alloc _) hb1 (by simp; omega)
 have hb2:=(below_alloc2 w _ _).trans (hb1.mono (by simp; omega))
 rw [cat_one,show taggedS leafNm.data.toList (Tx.mk A m c).l=leafS m from rfl]
 clear hb1
 unfold dv
 go_wp2_with (refine wpList_store_row rfl 28 (.tmp 2) (.tmp 5) rfl w.heap.size _ rfl rfl 28 _ hr (dig_info (leafS_length m)) (by rw [dig_size (leafS_length m)]; rfl) (dig_one _) ?_)
 exact bodyPost_ret (results_cell_row rfl _ _ w.heap.size 28 _ (0,0) _ rfl (hr.setRow _) Tryz.underlying28 rfl (dig_info (leafS_length m))) rfl ⟨rfl,below_setRow hb2 (Nat.le_refl _) _⟩
set_option maxHeartbeats 1000000 in
set_option maxRecDepth 100000 in
theorem leafR_any (w:World) (A:Option Addr) (m:List UInt8) (c:Nat) (hs:Src w A m) (hc:m.length≤c) (hcm:c≤9223372036854775807) (hm:m.length≤1000000000) (ht:TabAt w 0) :
  Calls Tryz.prog 46 #[.slice A m.length c] w λe w'=>e=.returned (dv (leafS m))∧Below w.heap.size w w':=by
 have HC:=Lib.hid ht
 have htl:=ht.lt
 have HT:=Lib.hid (And.intro hs (And.intro hc hcm))
 clear ht hs hc hcm
 go_enter Tryz.func46,Tryz.ntmps46
 go_wp2_with fail
 refine (taggedR_any _ leafNm (some ⟨w.heap.size+1,0,none⟩) [Tx.mk A m c] 1 (texts_list (w.heap.size+1) (by simp) [Tx.mk A m c] _ _ rfl (λx hx=>by simp at hx; subst hx; exact ⟨HT.out.1.below ((Below.refl _ _).alloc (Nat.le_refl _) _),HT.out.2⟩)) (HC.out.below (below_alloc2 w _ _) htl) (by decide) (by rw [cat_one]; exact hm) (by simp)).mono ?_
 rintro e w1 ⟨rfl,hb1⟩
 have hr:=Blk.below ((Blk.new w _ _).alloc _) hb1 (by simp; omega)
 have hb2:=(below_alloc2 w _ _).trans (hb1.mono (by simp; omega))
 rw [cat_one,show taggedS leafNm.data.toList (Tx.mk A m c).l=leafS m from rfl]
 clear hb1
 unfold dv
 go_wp2_with (refine wpList_store_row rfl 28 (.tmp 2) (.tmp 5) rfl w.heap.size _ rfl rfl 28 _ hr (dig_info (leafS_length m)) (by rw [dig_size (leafS_length m)]; rfl) (dig_one _) ?_)
 exact bodyPost_ret (results_cell_row rfl _ _ w.heap.size 28 _ (0,0) _ rfl (hr.setRow _) Tryz.underlying28 rfl (dig_info (leafS_length m))) rfl ⟨rfl,below_setRow hb2 (Nat.le_refl _) _⟩
set_option maxHeartbeats 1000000 in
set_option maxRecDepth 100000 in
theorem nodeR_any (w:World) (l r:List UInt8) (hl:l.length=32) (hr:r.length=32) (ht:TabAt w 0) :
  Calls Tryz.prog 87 #[.agg (l.map bv).toArray,.agg (r.map bv).toArray] w λe w'=>e=.returned (dv (nodeS l r))∧Below w.heap.size w w':=by
 have HC:=Lib.hid ht
 have htl:=ht.lt
 have HL:=Lib.hid (And.intro hl hr)
 have hu:=Tryz.underlying28
 have hi1:=dig_info' hl
 have hi2:=dig_info' hr
 clear ht hl hr
 go_enter Tryz.func87,Tryz.ntmps87
 go_wp2
 have hA:=rangeAt_blk (((Blk.new w 28 (l.map bv).toArray).alloc (.cells (r.map bv).toArray 28)).alloc (.cells zeroDigest 28))
 have hB:=rangeAt_blk (Blk.alloc (heap_alloc2_new w (.cells (l.map bv).toArray 28) (.cells (r.map bv).toArray 28)) (.cells zeroDigest 28))
 refine wp_region_G (λj=>j == 6) (by kernel_rfl) ?_
 refine tkw 0 rfl (YieldsG.load (by rfl) _ _ rfl w.heap.size 0 rfl (l.map bv) _ (by simp; omega) hA hu rfl hi1) ?_
 try simp only [Act.put,aA,aZ,aS]
 refine tkw 2 rfl (YieldsG.load (by rfl) _ _ rfl (w.heap.size+1) 0 rfl (r.map bv) _ (by simp) hB hu rfl hi2) ?_
 try simp only [Act.put,aA,aZ,aS]
 refine wpAnyG_sole 1 rfl (by kernel_rfl) (by rfl) (λw1 h1 K hK=>?_)
 go_simp
 refine (textR_any w1 l HL.out.1).mono ?_
 rintro e w2 ⟨g2,c2,rfl,ho2,hl2,hb2⟩
 refine hK _ _ (λ_=>hb2) ?_
 clear hK K
 try simp only [Act.put,aA,aZ,aS]
 refine wpAnyG_sole 3 rfl (by kernel_rfl) (by rfl) (λw3 h3 K hK=>?_)
 go_simp
 refine (textR_any w3 r HL.out.2).mono ?_
 rintro e w4 ⟨g4,c4,rfl,ho4,hl4,hb4⟩
 refine hK _ _ (λ_=>hb4) ?_
 clear hK K
 try simp only [Act.put,aA,aZ,aS]
 have hR1:Blk w1 (w.heap.size+2) 28 _:=Gr.blk h1 (blk_new3 w _ _ _ _)
 have hR4:=((hR1.below hb2 hR1.lt).below h3 (Nat.lt_of_lt_of_le hR1.lt hb2.size)).below hb4 (Nat.lt_of_lt_of_le hR1.lt (Nat.le_trans hb2.size (Below.size h3)))
 have hB4:Below w.heap.size w w4:=Below.gr (Below.gr (Below.gr (Below.gr (below_alloc3 w _ _ _) h1) hb2) h3) hb4
 have s2:=((ho2.src hl2).below h3).below hb4
 have s4:=ho4.src hl4
 have k2:=ho2.cap
 have k4:=ho4.cap
 clear hR1 ho2 ho4 hA hB
 refine wpAnyG_sole 4 rfl (by kernel_rfl) (by rfl) (λw5 h5 K hK=>?_)
 go_simp
 refine hK _ _ (λ_=>gr_alloc _ _) ?_
 clear hK K
 try simp only [Act.put,aA,aZ,aS]
 have hx1:(Tx.mk (some ⟨g2,0,none⟩) l c2).ok w5:=⟨s2.below h5,k2⟩
 have hx2:(Tx.mk (some ⟨g4,0,none⟩) r c4).ok w5:=⟨s4.below h5,k4⟩
 have hT:=texts_list (W:=w5) _ rfl [Tx.mk (some ⟨g2,0,none⟩) l c2,Tx.mk (some ⟨g4,0,none⟩) r c4] 29 #[.slice (some ⟨g2,0,none⟩) 32 c2,.slice (some ⟨g4,0,none⟩) 32 c4]
  (by simp only [Tx.val,List.map_cons,List.map_nil,HL.out.1,HL.out.2]) (λx hx=>by simp at hx; rcases hx with rfl | rfl <;> assumption)
 have hR:=Gr.blk h5 hR4
 have hb5:=Below.gr hB4 h5
 have HT:=Lib.hid hT
 clear hx1 hx2 hT s2 s4 k2 k4 hR4
 refine tkw 5 rfl (YieldsG.call (v:=.agg ((nodeS l r).map bv).toArray) (by rfl) 44 _ (λw9=>by go_simp; try (first | with_reducible rfl | rfl)) (λw9 h9=>calls_dv (taggedR_any w9 nodeNm _ [Tx.mk (some ⟨g2,0,none⟩) l c2,Tx.mk (some ⟨g4,0,none⟩) r c4] 2 (HT.out.below h9) (HC.out.below (Below.gr hb5 ((gr_alloc _ _).trans h9)) htl) (by decide) (by rw [cat_two]; simp only [List.length_append,HL.out.1,HL.out.2]; omega) (by simp)) (by rw [cat_two]; rfl))) ?_
 try simp only [Act.put,aA,aZ,aS]
 refine wpAnyG_store 6 rfl (by kernel_rfl) (by rfl) _ _ _ rfl (w.heap.size+2) (((nodeS l r).map bv).toArray) rfl rfl _ _ (hR.alloc _) (dig_info (nodeS_length l r)) (by rw [dig_size (nodeS_length l r)]; rfl) (dig_one _) rfl (λw6 h6 w7 hB7 hL7=>?_)
 try simp only [Act.put]
 refine wpAnyG_done (by kernel_rfl) (λw8 h8=>?_)
 have hfin:=Gr.blk h8 hL7
 have hb9:=(Below.gr hb5 ((gr_alloc _ _).trans h6)).trans ((hB7 _ (by omega)).trans (Below.mono h8 (by have:=hL7.lt; omega)))
 go_wp2
 exact bodyPost_ret (results_cell_row rfl _ _ (w.heap.size+2) 28 _ (0,0) _ rfl hfin Tryz.underlying28 rfl (dig_info (nodeS_length l r))) rfl ⟨rfl,hb9⟩
end Sh
end
section
namespace Sh
open Go.RowKit Sp
theorem DSrc.one {w:World} {A:Option Addr} {d:List UInt8} (h:DSrc w A [d]):∃ b o,A=some ⟨b,o,none⟩∧b<w.heap.size∧w.rangeAt b o (d.map bv):=by
 obtain ⟨b,o,e,hlt,hc⟩:=h.2 (by simp)
 exact ⟨b,o,e,hlt,by simpa using hc 0 d rfl⟩
theorem rangeAt_gr {W W':World} {g o:Nat} {cs:List Value} (h:W.rangeAt g o cs) (hb:Gr W W') (hg:g<W.heap.size):W'.rangeAt g o cs:=λj v hj=>(Below.cell (p:=⟨g,o+j,none⟩) hb hg).trans (h j v hj)
theorem DSrc.addr {w:World} {A:Option Addr} {ds:List (List UInt8)} (h:DSrc w A ds) (hn:0<ds.length):∃ b o,A=some ⟨b,o,none⟩∧b<w.heap.size:=by
 obtain ⟨b,o,e,hlt,_⟩:=h.2 (λe=>by rw [e] at hn; cases hn)
 exact ⟨b,o,e,hlt⟩
set_option maxHeartbeats 2000000 in
set_option maxRecDepth 100000 in
theorem root_any (f:Nat):∀ (w:World) (A:Option Addr) (ds:List (List UInt8)) (n c:Nat),n≤f→n=ds.length→n≤1048576→DSrc w A ds→n≤c→c≤9223372036854775807→TabAt w 1 →
  Calls Tryz.prog 42 #[.slice A n c] w λe w'=>e=.returned (dv (rootS ds))∧Below w.heap.size w w':=by
 induction f with
 | zero =>
  intro w A ds n c hf hn hm hs hc hcm ht
  obtain rfl:ds=[]:=List.eq_nil_of_length_eq_zero (by omega)
  obtain rfl:n=0:=hn
  have HC:=Lib.hid ht
  have htl:=ht.lt
  clear ht hs
  go_enter Tryz.func42,Tryz.ntmps42
  go_wp2_with fail
  refine (tagged_any _ noneNm none [] 0 (λh=>absurd rfl h) (HC.out.below ((Below.refl _ _).alloc (Nat.le_refl _) _) htl) (by decide) (by decide) (by decide)).mono ?_
  rintro e w1 ⟨rfl,hb1⟩
  have hr:=Blk.below (Blk.new w 28 _) hb1 (by simp)
  have hb2:=((Below.refl w.heap.size w).alloc (Nat.le_refl _) _).trans (hb1.mono (by simp))
  rw [show taggedS noneNm.data.toList (cat [])=noneS from rfl]
  clear hb1
  unfold dv
  go_wp2_with (refine wpList_store_row rfl 28 (.tmp 2) (.tmp 9) rfl w.heap.size _ rfl rfl 28 _ hr (dig_info noneS_length) (by rw [dig_size noneS_length]; rfl) (dig_one _) ?_)
  exact bodyPost_ret (results_cell_row rfl _ _ w.heap.size 28 _ (0,0) _ rfl (hr.setRow _) Tryz.underlying28 rfl (dig_info noneS_length)) rfl ⟨rfl,below_setRow hb2 (Nat.le_refl _) _⟩
 | succ f ih =>
  intro w A ds n c hf hn hm hs hc hcm ht
  have HC:=Lib.hid ht
  have htl:=ht.lt
  clear ht
  rcases Nat.lt_or_ge n 1 with h0 | h1
  ·exact ih w A ds n c (by omega) hn hm hs hc hcm HC.out
  rcases Nat.lt_or_ge n 2 with h2 | h2
  ·obtain ⟨d,rfl⟩:∃ d,ds=[d]:=by
    cases ds with
    | nil=>simp at hn; omega
    | cons d r=>exact ⟨d,by rw [List.eq_nil_of_length_eq_zero (l:=r) (by simp at hn; omega)]⟩
   obtain rfl:n=1:=by omega
   obtain ⟨b,o,rfl,hlt,hrg⟩:=hs.one
   have hd:d.length=32:=hs.1 d (by simp)
   have hrg0:(w.alloc (.cells zeroDigest 28)).rangeAt b o (d.map bv):=rangeAt_gr hrg (gr_alloc _ _) hlt
   have HR:=Lib.hid hrg0
   have HD:=Lib.hid hd
   clear hs hn hrg hrg0 hd
   go_enter Tryz.func42,Tryz.ntmps42
   go_wp2_with (first
    | (refine wpList_load_mid rfl 28 (.tmp 13) rfl b o rfl (d.map bv) _ HR.out Tryz.underlying28 rfl (dig_info' HD.out) ?_)
    | (refine wpList_store_row rfl 28 (.tmp 2) (.tmp 14) rfl w.heap.size _ rfl rfl 28 _ (Blk.new w _ _) (dig_info HD.out) (by rw [dig_size HD.out]; rfl) (dig_one _) ?_))
   exact bodyPost_ret (results_cell_row rfl _ _ w.heap.size 28 _ (0,0) _ rfl ((Blk.new w _ _).setRow _) Tryz.underlying28 rfl (dig_info HD.out)) rfl ⟨by rw [rootS_one]; rfl,below_setRow ((Below.refl _ _).alloc (Nat.le_refl _) _) (Nat.le_refl _) _⟩
  ·obtain ⟨b,o,rfl,hlt⟩:=hs.addr (by omega)
   obtain ⟨c0,c1,c2,_⟩:=cut_spec n h2 (by omega)
   have hroot:rootS ds=nodeS (rootS (ds.take (cut n))) (rootS (ds.drop (cut n))):=by rw [hn]; exact rootS_two ds (by omega) (by omega)
   have hlk:(ds.take (cut n)).length=cut n:=by rw [List.length_take]; omega
   have hrk:(ds.drop (cut n)).length=n - cut n:=by rw [List.length_drop]; omega
   have hsl:DSrc w (some ⟨b,o,none⟩) (ds.take (cut n)):=hs.take _
   have hsr:DSrc w (some ⟨b,o+cut n*32,none⟩) (ds.drop (cut n)):=hs.drop _
   obtain ⟨L,hL⟩:∃ L,L=ds.take (cut n):=⟨_,rfl⟩
   obtain ⟨R,hR⟩:∃ R,R=ds.drop (cut n):=⟨_,rfl⟩
   rw [← hL] at hroot hlk hsl
   rw [← hR] at hroot hrk hsr
   have xl:(rootS L).length=32:=rootS_length _ hsl.1
   have xr:(rootS R).length=32:=rootS_length _ hsr.1
   obtain ⟨X,hX⟩:∃ X,X=rootS L:=⟨_,rfl⟩
   obtain ⟨Y,hY⟩:∃ Y,Y=rootS R:=⟨_,rfl⟩
   obtain ⟨k,hk⟩:∃ k,k=cut n:=⟨_,rfl⟩
   rw [← hX] at hroot xl
   rw [← hY] at hroot xr
   rw [← hk] at c0 c1 c2 hlk hrk hsr
   rw [hroot]
   have HS:=Lib.hid (And.intro hsl hsr)
   have HX:=Lib.hid (And.intro hX hY)
   have HL:=Lib.hid (And.intro xl xr)
   have HK:=Lib.hid (And.intro hk (And.intro hlk hrk))
   clear hs hn hroot hsl hsr hL hR hX hY xl xr hk hlk hrk
   go_enter Tryz.func42,Tryz.ntmps42
   go_wp2_with fail
   refine (halves_any _ b o n c h2 (by omega) hc).mono ?_
   rintro e w1 ⟨rfl,hb1⟩
   rw [← HK.out.1]
   have hr:=Blk.below (Blk.new w 28 _) hb1 (by simp)
   have hb:=((Below.refl w.heap.size w).alloc (Nat.le_refl _) _).trans (hb1.mono (by simp))
   clear hb1
   go_wp2_with fail
   refine (ih w1 _ L k k (by omega) HK.out.2.1.symm (by omega) (HS.out.1.below hb) (Nat.le_refl _) (by omega) (HC.out.below hb htl)).mono ?_
   rintro e w2 ⟨rfl,hb2⟩
   rw [← HX.out.1]
   have hr:=hr.below hb2 hr.lt
   have hb:=hb.trans (hb2.mono hb.size)
   clear hb2
   unfold dv
   go_wp2_with fail
   refine (ih w2 _ R (n - k) (n - k) (by omega) HK.out.2.2.symm (by omega) (HS.out.2.below hb) (Nat.le_refl _) (by omega) (HC.out.below hb htl)).mono ?_
   rintro e w3 ⟨rfl,hb3⟩
   rw [← HX.out.2]
   have hr:=hr.below hb3 hr.lt
   have hb:=hb.trans (hb3.mono hb.size)
   clear hb3
   unfold dv
   go_wp2_with fail
   refine (node_any w3 X Y HL.out.1 HL.out.2 (HC.out.below hb htl)).mono ?_
   rintro e w4 ⟨rfl,hb4⟩
   have hr:=hr.below hb4 hr.lt
   have hb:=hb.trans (hb4.mono hb.size)
   clear hb4
   unfold dv
   go_wp2_with (refine wpList_store_row rfl 28 (.tmp 2) (.tmp 24) rfl w.heap.size _ rfl rfl 28 _ hr (dig_info (nodeS_length X Y)) (by rw [dig_size (nodeS_length X Y)]; rfl) (dig_one _) ?_)
   exact bodyPost_ret (results_cell_row rfl _ _ w.heap.size 28 _ (0,0) _ rfl (hr.setRow _) Tryz.underlying28 rfl (dig_info (nodeS_length X Y))) rfl ⟨rfl,below_setRow hb (Nat.le_refl _) _⟩
set_option maxHeartbeats 2000000 in
set_option maxRecDepth 100000 in
theorem rootR_any (f:Nat):∀ (w:World) (A:Option Addr) (ds:List (List UInt8)) (n c:Nat),n≤f→n=ds.length→n≤1048576→DSrc w A ds→n≤c→c≤9223372036854775807→TabAt w 0 →
  Calls Tryz.prog 47 #[.slice A n c] w λe w'=>e=.returned (dv (rootS ds))∧Below w.heap.size w w':=by
 induction f with
 | zero =>
  intro w A ds n c hf hn hm hs hc hcm ht
  obtain rfl:ds=[]:=List.eq_nil_of_length_eq_zero (by omega)
  obtain rfl:n=0:=hn
  have HC:=Lib.hid ht
  have htl:=ht.lt
  clear ht hs
  go_enter Tryz.func47,Tryz.ntmps47
  go_wp2_with fail
  refine (taggedR_any _ noneNm none [] 0 (λh=>absurd rfl h) (HC.out.below ((Below.refl _ _).alloc (Nat.le_refl _) _) htl) (by decide) (by decide) (by decide)).mono ?_
  rintro e w1 ⟨rfl,hb1⟩
  have hr:=Blk.below (Blk.new w 28 _) hb1 (by simp)
  have hb2:=((Below.refl w.heap.size w).alloc (Nat.le_refl _) _).trans (hb1.mono (by simp))
  rw [show taggedS noneNm.data.toList (cat [])=noneS from rfl]
  clear hb1
  unfold dv
  go_wp2_with (refine wpList_store_row rfl 28 (.tmp 2) (.tmp 7) rfl w.heap.size _ rfl rfl 28 _ hr (dig_info noneS_length) (by rw [dig_size noneS_length]; rfl) (dig_one _) ?_)
  exact bodyPost_ret (results_cell_row rfl _ _ w.heap.size 28 _ (0,0) _ rfl (hr.setRow _) Tryz.underlying28 rfl (dig_info noneS_length)) rfl ⟨rfl,below_setRow hb2 (Nat.le_refl _) _⟩
 | succ f ih =>
  intro w A ds n c hf hn hm hs hc hcm ht
  have HC:=Lib.hid ht
  have htl:=ht.lt
  clear ht
  rcases Nat.lt_or_ge n 1 with h0 | h1
  ·exact ih w A ds n c (by omega) hn hm hs hc hcm HC.out
  rcases Nat.lt_or_ge n 2 with h2 | h2
  ·obtain ⟨d,rfl⟩:∃ d,ds=[d]:=by
    cases ds with
    | nil=>simp at hn; omega
    | cons d r=>exact ⟨d,by rw [List.eq_nil_of_length_eq_zero (l:=r) (by simp at hn; omega)]⟩
   obtain rfl:n=1:=by omega
   obtain ⟨b,o,rfl,hlt,hrg⟩:=hs.one
   have hd:d.length=32:=hs.1 d (by simp)
   have hrg0:(w.alloc (.cells zeroDigest 28)).rangeAt b o (d.map bv):=rangeAt_gr hrg (gr_alloc _ _) hlt
   have HR:=Lib.hid hrg0
   have HD:=Lib.hid hd
   clear hs hn hrg hrg0 hd
   go_enter Tryz.func47,Tryz.ntmps47
   go_wp2_with (first
    | (refine wpList_load_mid rfl 28 (.tmp 12) rfl b o rfl (d.map bv) _ HR.out Tryz.underlying28 rfl (dig_info' HD.out) ?_)
    | (refine wpList_store_row rfl 28 (.tmp 2) (.tmp 13) rfl w.heap.size _ rfl rfl 28 _ (Blk.new w _ _) (dig_info HD.out) (by rw [dig_size HD.out]; rfl) (dig_one _) ?_))
   exact bodyPost_ret (results_cell_row rfl _ _ w.heap.size 28 _ (0,0) _ rfl ((Blk.new w _ _).setRow _) Tryz.underlying28 rfl (dig_info HD.out)) rfl ⟨by rw [rootS_one]; rfl,below_setRow ((Below.refl _ _).alloc (Nat.le_refl _) _) (Nat.le_refl _) _⟩
  ·obtain ⟨b,o,rfl,hlt⟩:=hs.addr (by omega)
   obtain ⟨c0,c1,c2,_⟩:=cut_spec n h2 (by omega)
   have hroot:rootS ds=nodeS (rootS (ds.take (cut n))) (rootS (ds.drop (cut n))):=by rw [hn]; exact rootS_two ds (by omega) (by omega)
   have hlk:(ds.take (cut n)).length=cut n:=by rw [List.length_take]; omega
   have hrk:(ds.drop (cut n)).length=n - cut n:=by rw [List.length_drop]; omega
   have hsl:DSrc w (some ⟨b,o,none⟩) (ds.take (cut n)):=hs.take _
   have hsr:DSrc w (some ⟨b,o+cut n*32,none⟩) (ds.drop (cut n)):=hs.drop _
   obtain ⟨L,hL⟩:∃ L,L=ds.take (cut n):=⟨_,rfl⟩
   obtain ⟨R,hR⟩:∃ R,R=ds.drop (cut n):=⟨_,rfl⟩
   rw [← hL] at hroot hlk hsl
   rw [← hR] at hroot hrk hsr
   have xl:(rootS L).length=32:=rootS_length _ hsl.1
   have xr:(rootS R).length=32:=rootS_length _ hsr.1
   obtain ⟨X,hX⟩:∃ X,X=rootS L:=⟨_,rfl⟩
   obtain ⟨Y,hY⟩:∃ Y,Y=rootS R:=⟨_,rfl⟩
   obtain ⟨k,hk⟩:∃ k,k=cut n:=⟨_,rfl⟩
   rw [← hX] at hroot xl
   rw [← hY] at hroot xr
   rw [← hk] at c0 c1 c2 hlk hrk hsr
   rw [hroot]
   have HS:=Lib.hid (And.intro hsl hsr)
   have HX:=Lib.hid (And.intro hX hY)
   have HL:=Lib.hid (And.intro xl xr)
   have HK:=Lib.hid (And.intro hk (And.intro hlk hrk))
   clear hs hn hroot hsl hsr hL hR hX hY xl xr hk hlk hrk
   go_enter Tryz.func47,Tryz.ntmps47
   have a1:(0:Int)≤(k:Int):=by omega
   have a2:(k:Int)≤(n:Int):=by omega
   have a3:(n:Int)≤(c:Int):=by omega
   have a4:(k:Int)≤(c:Int):=by omega
   have a6:¬ c=k:=by omega
   go_wp2_with fail
   refine (refCut_any n _ h2 (by omega)).mono ?_
   rintro e w1 ⟨rfl,rfl⟩
   rw [← HK.out.1]
   have hr:=Blk.new w 28 zeroDigest
   have hb:Below w.heap.size w (w.alloc (.cells zeroDigest 28)):=(Below.refl w.heap.size w).alloc (Nat.le_refl _) _
   go_wp2
   refine wp_region_G (λj=>j == 9) (by kernel_rfl) ?_
   refine tk 0 rfl ?_
   try simp only [Act.put,aA,aZ,aS]
   refine tk 1 rfl ?_
   try simp only [Act.put,aA,aZ,aS]
   refine tk 2 rfl ?_
   try simp only [Act.put,aA,aZ,aS]
   refine tkw 3 rfl (YieldsG.call (v:=.agg (X.map bv).toArray) (by rfl) 47 _ (λw9=>by go_simp; try (first | with_reducible rfl | rfl)) (λw9 h9=>calls_dv (ih w9 _ L k c (by omega) HK.out.2.1.symm (by omega) (HS.out.1.below (Below.gr hb h9)) (by omega) hcm (HC.out.below (Below.gr hb h9) htl)) HX.out.1)) ?_
   try simp only [Act.put,aA,aZ,aS]
   refine tk 4 rfl ?_
   try simp only [Act.put,aA,aZ,aS]
   refine tk 5 rfl ?_
   try simp only [Act.put,aA,aZ,aS]
   refine tk 6 rfl ?_
   try simp only [Act.put,aA,aZ,aS]
   refine tkw 7 rfl (YieldsG.call (v:=.agg (Y.map bv).toArray) (by rfl) 47 _ (λw9=>by go_simp; try (first | with_reducible rfl | rfl)) (λw9 h9=>calls_dv (ih w9 _ R (n - k) (c - k) (by omega) HK.out.2.2.symm (by omega) (HS.out.2.below (Below.gr hb h9)) (by omega) (by omega) (HC.out.below (Below.gr hb h9) htl)) HX.out.2)) ?_
   try simp only [Act.put,aA,aZ,aS]
   refine tkw 8 rfl (YieldsG.call (v:=.agg ((nodeS X Y).map bv).toArray) (by rfl) 87 _ (λw9=>by go_simp; try (first | with_reducible rfl | rfl)) (λw9 h9=>calls_dv (nodeR_any w9 X Y HL.out.1 HL.out.2 (HC.out.below (Below.gr hb h9) htl)) rfl)) ?_
   try simp only [Act.put,aA,aZ,aS]
   refine wpAnyG_store 9 rfl (by kernel_rfl) (by rfl) _ _ _ rfl w.heap.size (((nodeS X Y).map bv).toArray) rfl rfl _ _ hr (dig_info (nodeS_length X Y)) (by rw [dig_size (nodeS_length X Y)]; rfl) (dig_one _) rfl (λw6 h6 w7 hB7 hL7=>?_)
   try simp only [Act.put]
   refine wpAnyG_done (by kernel_rfl) (λw8 h8=>?_)
   go_wp2
   exact bodyPost_ret (results_cell_row rfl _ _ w.heap.size 28 _ (0,0) _ rfl (Gr.blk h8 hL7) Tryz.underlying28 rfl (dig_info (nodeS_length X Y))) rfl ⟨rfl,(Below.gr hb h6).trans ((hB7 _ (Nat.le_refl _)).trans (Below.mono h8 (Nat.le_of_lt hL7.lt)))⟩
end Sh
end
section
namespace Wr
open Go.RowKit Sy
set_option maxRecDepth 100000
set_option maxHeartbeats 4000000
def leafT (x:MTr):Byt:=Sh.leafS (byE (okTR x) (encTR x))
theorem leafT_len (x:MTr):(leafT x).length=32:=tagged_len _ _
def rootT (l:List MTr):Byt:=Sh.rootS (l.map leafT)
def dgAt (l:List MTr) (j:Nat):Byt:=match l[j]? with | some x=>leafT x | none=>List.replicate 32 0
theorem dgAt_len (l:List MTr) (j:Nat):(dgAt l j).length=32:=by
 unfold dgAt
 cases l[j]? with
 | none=>rfl
 | some x=>exact leafT_len x
theorem dgAt_some {l:List MTr} {j:Nat} {x:MTr} (h:l[j]? = some x):dgAt l j=leafT x:=by unfold dgAt; rw [h]
theorem headD_len (ds:List (List UInt8)) (h:∀ d∈ds,d.length=32):(ds.headD Sh.noneS).length=32:=by
 cases ds with
 | nil=>exact tagged_len _ _
 | cons d ds=>exact h d (List.mem_cons_self ..)
theorem rootF_len:∀ (f:Nat) (ds:List (List UInt8)),(∀ d∈ds,d.length=32)→(Sh.rootF f ds).length=32
 | 0,ds,h=>headD_len ds h
 | f+1,ds,h=>by
  unfold Sh.rootF
  split
  ·exact tagged_len _ _
  ·exact headD_len ds h
theorem rootT_len (l:List MTr):(rootT l).length=32:=rootF_len _ _ (λd hd=>by obtain ⟨x,_,rfl⟩:=List.mem_map.1 hd; exact leafT_len x)
noncomputable def inf_dg:TypeInfo:=(Tryz.prog.info? 28).getD default
theorem info_dg9:Tryz.prog.info? 28=some inf_dg:=by kernel_rfl
theorem leaf_b (w:World) (v:Value) (b:Byt) (h:BytR (rdW w) v b) (hl:b.length≤1000000000) (ht:TbS w):Calls Tryz.prog 41 #[v] w (Gets w (.agg ((Sh.leafS b).map bv).toArray)):=by
 obtain ⟨x,rfl,rfl,hx⟩:=txOf h
 exact Sh.leaf_any w x.A x.l x.c hx.1 hx.2.1 hx.2.2 hl ht
theorem leafR_b (w:World) (v:Value) (b:Byt) (h:BytR (rdW w) v b) (hl:b.length≤1000000000) (ht:TbR w):Calls Tryz.prog 46 #[v] w (Gets w (.agg ((Sh.leafS b).map bv).toArray)):=by
 obtain ⟨x,rfl,rfl,hx⟩:=txOf h
 exact Sh.leafR_any w x.A x.l x.c hx.1 hx.2.1 hx.2.2 hl ht
theorem dsrc_of {w:World} {g:Nat} {ds:List (List UInt8)} {cs:List Value} {t:TypeId} (hb:Blk w g t cs.toArray) (hd:∀ d∈ds,d.length=32) (hc:∀ (j:Nat) (d:List UInt8),ds[j]? = some d→(cs.drop (j*32)).take 32=d.map bv):Sh.DSrc w (some ⟨g,0,none⟩) ds :=
 ⟨hd,λ_=>⟨g,0,rfl,hb.lt,λj d hj i v hi=>by
  have e:=hc j d hj
  have hlt:i<32:=by
   have h1:=(List.getElem?_eq_some_iff.1 hi).1
   rw [List.length_map,hd d (List.mem_of_getElem? hj)] at h1
   exact h1
  rw [← e,List.getElem?_take_of_lt hlt,List.getElem?_drop] at hi
  rw [Nat.zero_add,hb.cell,List.getElem?_toArray]
  exact hi⟩⟩
theorem root_tx (w:World) (v:Value) (l:List MTr) (hv:LstR (rdW w) 3 repTR v l) (hl:l.length≤1048576) (hwt:∀ x∈l,wtTR x≤1000000000) (ht:TbS w):Calls Tryz.prog 15 #[v] w (Gets w (.agg ((rootT l).map bv).toArray)):=by
 obtain ⟨A,n,cp,rfl,h2,h3,h4,h5⟩:=hv
 obtain ⟨dR,hdR⟩:∃ d,d=rootT l:=⟨_,rfl⟩
 have hdl:(dR.map bv).length=32:=by rw [List.length_map,hdR]; exact rootT_len l
 rw [← hdR]
 have hmx:cp<9223372036854775808:=by simp only [maxLen] at h4; omega
 refine Sy.enter (args:=[.slice A n cp]) Tryz.func15 rfl kL ?_
 refine sC ?_
 refine sM 28 ((List.replicate 32 (0:UInt8)).map bv).toArray (λg2=>?_)
 refine sA ?_
 refine sp rfl<|sP (.int .i64 (n:Int)) ?_
 refine Sy.make kR 28 (flat (λ_=>(List.replicate 32 (Value.int .u8 0))) n).toArray (λg=>.slice (some ⟨g,0,none⟩) n n) (Makes.slice 79 28 _ (.agg (List.replicate 32 (Value.int .u8 0)).toArray) 32 32 _ _ .i64 .i64 n (List.replicate 32 (Value.int .u8 0)) rfl rfl rfl Tryz.underlying79 info_dg9 kR kR (by decide) kR kR kR (by omega) (by omega)) (λga=>?_)
 refine sp rfl ?_
 refine sG<|Sy.seq<|sC ?_
 refine sp rfl<|sP (.int .i64 (n:Int))<|sP (.int .i64 0) ?_
 refine sG<|Sy.block ?_
 have hA:∀ j,((dgAt l j).map bv).length=32:=λj=>by rw [List.length_map,dgAt_len]
 refine Sy.loopT (Y:=Unit) n (λk _=>[(2,ptr g2),(3,.slice (some ⟨ga,0,none⟩) n n),(11,.slice A n cp),(12,.int .i64 (n:Int)),(13,.int .i64 (k:Int))]) (λk _=>[(g2,28,((List.replicate 32 (0:UInt8)).map bv).toArray),(ga,28,(flat (upto k (λj=>(dgAt l j).map bv) (List.replicate 32 (Value.int .u8 0))) n).toArray)]) (λ_ _=>True) () trivial (all_cons kR (all_cons kR (all_cons kR (all_cons kR (all_cons kR all_nil))))) (λ_ h=>h) (λk _ hk _=>?_)
 refine sC ?_
 obtain ⟨b2,hb2⟩:∃ t_:Bool,t_=decide (k<n):=⟨_,rfl⟩
 refine sS (.bool b2) (Quiet.pure (exec_int .lss _ _ _ .i64 _ _ _ rfl rfl rfl (int_lss _ _ _ _ _ (by rw [hb2]; exact decide_eq_decide.2 (by omega))))) ?_
 refine sG<|Sy.seq ?_
 cases b2
 case' true =>
  have l2:k<n:=of_decide_eq_true hb2.symm
  obtain ⟨x,hx⟩:∃ x,l[k]? = some x:=⟨_,List.getElem?_eq_getElem (by omega)⟩
  have hxw:=hwt x (List.mem_of_getElem? hx)
  obtain ⟨g,o,rfl,hq⟩:=h5 (by intro e; rw [e] at hx; cases hx)
  obtain ⟨c,c1,c2,c3,c4⟩:=hq k x hx
  have hdk:dgAt l k=leafT x:=dgAt_some hx
  have hll:=lnTR (domTR_of c3)
  refine sT<|Sy.skip<|Sy.then_<|Sy.seq<|Sy.block<|sC ?_
  refine sp rfl<|sS (.pointer (some ⟨g,o+k*3,none⟩)) (Quiet.pure (exec_at 36 26 _ _ g o n cp k 3 .i64 rfl rfl rfl Tryz.underlying36 kF l2))<|sS (.agg c.toArray) (rowC (R:=[]) (cs:=c) (λi u hu=>rdW_base _ _ _ (c4 i u hu)) (λ_ h=>by cases h) c1 rfl Tryz.underlying26) ?_
  refine sM 26 #[.int .u64 0,.slice none 0 0,.slice none 0 0] (λg5=>?_)
  refine sp rfl ?_
  refine sw 2 rfl c.toArray (Writes.row 26 c 3 _ _ rfl kR kR kR c1 (by kernel_rfl) c2) ?_
  refine sA ?_
  refine sS (.agg c.toArray) (Quiet.mid 2 g5 0 3 26 26 c c _ _ rfl kR rfl Tryz.underlying26 rfl kR (by rw [List.drop_zero,List.take_of_length_le (by omega)]) (by omega)) ?_
  refine Sy.callN kR 7 #[.agg c.toArray] kF (BytE (okTR x) (encTR x)) (λw' hw=>ex_txx (rep:=repTR) monoTR tx_w w' c x (monoTR (λg o u h=>rdC_world (w0:=Base.of w) (R:=[]) hw (λ_ h=>by cases h) g o u (.inl h)) c3) c1 (by omega)) (λu M hM=>?_)
  obtain ⟨u,rfl,hb⟩:=hM.uni
  refine sp rfl<|sp rfl<|sp rfl<|sp rfl<|sp rfl ?_
  refine sG<|Sy.region ?_
  refine sp rfl<|sp rfl<|sp rfl<|sS (.agg ((dgAt l k).map bv).toArray) (qg (λw' hw=>by
   rw [hdk]
   exact leaf_b w' u _ (hb.le (λg o u h=>rdC_world (R:=M) hw (λb hb=>by simp [hb]) g o u (.inr h))) (lnE (by omega)) (tbS_st ht hw)))<|sS (.pointer (some ⟨ga,0+k*32,none⟩)) (Quiet.pure (exec_at 79 28 _ _ ga 0 n n k 32 .i64 rfl rfl rfl Tryz.underlying79 kF l2)) ?_
  refine sw 1 rfl (flat (upto (k+1) (λj=>(dgAt l j).map bv) (List.replicate 32 (Value.int .u8 0))) n).toArray (Writes.part (0+k*32) 28 ((dgAt l k).map bv) _ _ rfl kR kR (by rw [hA]; kernel_rfl) (by rw [hA,List.size_toArray,flat_len (λj=>by unfold upto; split <;> first | exact hA j | rfl)]; omega) (by rw [List.all_toArray,List.all_eq_true]; intro u hu; obtain ⟨b,_,rfl⟩:=List.mem_map.1 hu; rfl) (upto_set hA rfl rfl l2 (by omega))) ?_
  refine Sy.nil<|Sy.in_<|Sy.then_<|Sy.region ?_
  refine sS (.int .i64 ((k+1:Nat):Int)) (Quiet.pure (exec_int .add _ _ _ .i64 _ _ _ rfl rfl rfl (int_add _ _ _ _ _ ((wrap_i64 (by omega) (by omega)).trans (by omega)))))<|sp rfl ?_
  refine Sy.nil ?_
  exact Sy.againT () l2 trivial (all_cons kR (all_cons kR (all_cons kR (all_cons kR (all_cons kR all_nil))))) (λ_ h=>h.less (by simp))
 have l2:¬ k<n:=of_decide_eq_false hb2.symm
 obtain rfl:k=n:=by omega
 refine sU<|Sy.exit<|Sy.then_exit<|Sy.then_exit<|Sy.in_exit<|Sy.then_<|sC ?_
 refine sp rfl<|sS (.agg (dR.map bv).toArray) (qg (λw' hw=>by
  rw [hdR]
  exact Sh.root_any k w' (some ⟨ga,0,none⟩) (l.map leafT) k k (Nat.le_refl _) (by rw [List.length_map,h2]) (by omega) (dsrc_of (cs:=flat (upto k (λj=>(dgAt l j).map bv) (List.replicate 32 (Value.int .u8 0))) k) (hw.blk ga 28 _ (List.mem_cons_of_mem _ (List.mem_singleton.2 rfl))).2 (λd hd=>by obtain ⟨x,_,rfl⟩:=List.mem_map.1 hd; exact leafT_len x) (λj d hj=>by
   rw [List.getElem?_map] at hj
   cases hx:l[j]? with
   | none=>rw [hx] at hj; cases hj
   | some x =>
    rw [hx] at hj
    cases hj
    have hjk:j<k:=by rw [← h2]; exact (List.getElem?_eq_some_iff.1 hx).1
    rw [flat_at (λj=>by unfold upto; split <;> first | exact hA j | rfl) hjk rfl]
    unfold upto
    rw [if_pos hjk]
    show (dgAt l j).map bv=_
    rw [dgAt_some hx])) (Nat.le_refl _) (by omega) (tbS_st ht hw))) ?_
 refine sw 0 rfl (dR.map bv).toArray (Writes.row 28 (dR.map bv) 32 _ _ rfl kR kR kR hdl (by simp) (λu hu=>by obtain ⟨b,_,rfl⟩:=List.mem_map.1 hu; rfl)) ?_
 refine sG<|Sy.ret ?_
 exact Sy.ret1 rfl (.inl (Sy.Res.cell (ty':=28) g2 0 (dR.map bv).toArray _ rfl rfl Tryz.underlying28 rfl (by rw [List.size_toArray,hdl]; kernel_rfl) rfl))
theorem dsrc_own {w0:Base} {w:World} {L:Blocks} {r:Slc} {ds:List Byt} (hr:r.Is 28 32 (ds.map λd=>d.map bv)) (hL:∀ b∈r.bl,b∈L) (hw:St w0 w L) (hd:∀ d∈ds,d.length=32):∃ A cap,r.v=.slice A ds.length cap∧ds.length≤cap∧cap≤maxLen∧Sh.DSrc w A ds:=by
 rcases hr.row with ⟨e,rfl⟩ | ⟨g,cap,tl,rfl,q1,q2,q3⟩
 ·have:ds=[]:=by cases ds with | nil=>rfl | cons=>cases e
  subst this
  exact ⟨none,0,rfl,Nat.le_refl _,Nat.zero_le _,hd,λh=>(h rfl).elim⟩
 ·rw [List.length_map] at q2 ⊢
  refine ⟨_,cap,rfl,q2,q3,dsrc_of (hw.blk g 28 _ (hL _ (List.mem_singleton.2 rfl))).2 hd (λj d hj=>?_)⟩
  exact flat_at' tl hr.len j (d.map bv) (by rw [List.getElem?_map,hj]; rfl)
theorem rootR_tx (w:World) (v:Value) (l:List MTr) (hv:LstR (rdW w) 3 repTR v l) (hl:l.length≤1048576) (hwt:∀ x∈l,wtTR x≤1000000000) (ht:TbR w):Calls Tryz.prog 18 #[v] w (Gets w (.agg ((rootT l).map bv).toArray)):=by
 obtain ⟨A,n,cp,rfl,h2,h3,h4,h5⟩:=hv
 obtain ⟨dR,hdR⟩:∃ d,d=rootT l:=⟨_,rfl⟩
 have hdl:(dR.map bv).length=32:=by rw [List.length_map,hdR]; exact rootT_len l
 rw [← hdR]
 have hmx:cp<9223372036854775808:=by simp only [maxLen] at h4; omega
 refine Sy.enter (args:=[.slice A n cp]) Tryz.func18 rfl kL ?_
 refine sC ?_
 refine sM 28 ((List.replicate 32 (0:UInt8)).map bv).toArray (λg2=>?_)
 refine sA ?_
 refine sP (.slice none 0 0) ?_
 refine sG<|Sy.seq<|sC ?_
 refine sP (.int .i64 0) ?_
 refine sG<|Sy.block ?_
 refine Sy.loopT (Y:=Slc) n (λk z=>[(0,.slice A n cp),(2,ptr g2),(3,z.v),(4,.int .i64 (k:Int))]) (λk z=>[(g2,28,((List.replicate 32 (0:UInt8)).map bv).toArray)]++(z.bl++[])) (λk z=>z.Is 28 32 (((l.take k).map leafT).map λd=>d.map bv)) nilS (Slc.Is.nil _ _) (all_cons kR (all_cons kR (all_cons kR (all_cons kR all_nil)))) (λ_ h=>h) (λk z hk hz=>?_)
 refine Sy.seq<|sC ?_
 obtain ⟨b2,hb2⟩:∃ t_:Bool,t_=decide (k<n):=⟨_,rfl⟩
 refine sp rfl<|sp rfl<|sP (.int .i64 (n:Int))<|sS (.bool b2) (Quiet.pure (exec_int .lss _ _ _ .i64 _ _ _ rfl rfl rfl (int_lss _ _ _ _ _ (by rw [hb2]; exact decide_eq_decide.2 (by omega))))) ?_
 refine sG ?_
 cases b2
 case' true =>
  have l2:k<n:=of_decide_eq_true hb2.symm
  obtain ⟨x,hx⟩:∃ x,l[k]? = some x:=⟨_,List.getElem?_eq_getElem (by omega)⟩
  have hxw:=hwt x (List.mem_of_getElem? hx)
  obtain ⟨g,o,rfl,hq⟩:=h5 (by intro e; rw [e] at hx; cases hx)
  obtain ⟨c,c1,c2,c3,c4⟩:=hq k x hx
  have hll:=lnTR (domTR_of c3)
  refine sT<|Sy.skip<|Sy.then_<|Sy.seq<|Sy.block<|sC ?_
  refine sp rfl<|sp rfl<|sS (.pointer (some ⟨g,o+k*3,none⟩)) (Quiet.pure (exec_at 36 26 _ _ g o n cp k 3 .i64 rfl rfl rfl Tryz.underlying36 kF l2))<|sS (.agg c.toArray) (rowC (R:=[]) (cs:=c) (λi u hu=>rdW_base _ _ _ (c4 i u hu)) (λ_ h=>by cases h) c1 rfl Tryz.underlying26) ?_
  refine Sy.callN kR 25 #[.agg c.toArray] kF (BytE (okTR x) (encTR x)) (λw' hw=>txR_w w' x c (monoTR (λg o u h=>rdC_world (w0:=Base.of w) (R:=[]) hw (λ_ h=>by cases h) g o u (.inl h)) c3) (by omega)) (λu M hM=>?_)
  obtain ⟨u,rfl,hb⟩:=hM.uni
  refine sp rfl<|sp rfl<|sp rfl<|sp rfl<|sp rfl ?_
  refine sG<|Sy.region ?_
  obtain ⟨dk,hdk⟩:∃ d,d=leafT x:=⟨_,rfl⟩
  have hdkl:(dk.map bv).length=32:=by rw [List.length_map,hdk]; exact leafT_len x
  refine sp rfl<|sp rfl<|sS (.agg (dk.map bv).toArray) (qg (λw' hw=>by
   rw [hdk]
   exact leafR_b w' u _ (hb.le (λg o u h=>rdC_world (R:=M) hw (λb hb=>by simp [hb]) g o u (.inr h))) (lnE (by omega)) (tbR_st ht hw))) ?_
  refine Sy.make kR 28 (dk.map bv).toArray (λg=>.slice (some ⟨g,0,none⟩) 1 1) (Makes.one 79 28 _ _ 32 _ (dk.map bv) rfl kR Tryz.underlying79 info_dg9 rfl rfl hdkl (by decide) (by decide)) (λg6=>?_)
  refine Sy.permS (M:=[(g2,28,((List.replicate 32 (0:UInt8)).map bv).toArray),(g6,28,(dk.map bv).toArray)]++(z.bl++M)) (by
   have q:=(List.perm_append_comm (l₁:=z.bl++M) (l₂:=[(g6,28,(dk.map bv).toArray)])).cons (g2,28,((List.replicate 32 (0:UInt8)).map bv).toArray)
   rw [List.append_nil]
   refine (List.Perm.of_eq ?_).trans q
   simp only [List.append_assoc,List.cons_append,List.nil_append]) ?_
  have hxl:(((l.take k).map leafT).map λd:Byt=>d.map bv).length=k:=by rw [List.length_map,List.length_map,List.length_take]; omega
  refine Sy.appendR kR 79 28 _ _ 32 32 Tryz.underlying79 info_dg9 rfl rfl rfl rfl (by decide) _ _ rfl hz rfl (dk.map bv) hdkl (λu hu=>by obtain ⟨b,_,rfl⟩:=List.mem_map.1 hu; rfl) 1 g6 28 rfl rfl (by rw [hxl]; omega) (by rw [hxl]; simp only [maxLen]; omega) (λr hr=>?_)
  refine sp rfl ?_
  refine Sy.nil<|Sy.in_<|Sy.then_<|Sy.region ?_
  refine sp rfl<|sS (.int .i64 ((k+1:Nat):Int)) (Quiet.pure (exec_int .add _ _ _ .i64 _ _ _ rfl rfl rfl (int_add _ _ _ _ _ ((wrap_i64 (by omega) (by omega)).trans (by omega)))))<|sp rfl ?_
  refine Sy.nil ?_
  exact Sy.againT r l2 (by rw [List.take_add_one,hx,List.map_append,List.map_append]; rw [hdk] at hr; exact hr) (all_cons kR (all_cons kR (all_cons kR (all_cons kR all_nil)))) (λ_ h=>h.less (by
   rw [List.append_nil]
   exact ((List.sublist_append_left [(g2,28,((List.replicate 32 (0:UInt8)).map bv).toArray)] [(g6,28,(dk.map bv).toArray)]).append (List.sublist_append_left r.bl M))))
 have l2:¬ k<n:=of_decide_eq_false hb2.symm
 obtain rfl:k=n:=by omega
 rw [List.take_of_length_le (Nat.le_of_eq h2)] at hz
 have h32:∀ d∈l.map leafT,d.length=32:=λd hd=>by obtain ⟨x,_,rfl⟩:=List.mem_map.1 hd; exact leafT_len x
 refine sU<|Sy.exit<|Sy.then_exit<|Sy.then_exit<|Sy.in_exit<|Sy.then_<|sC ?_
 refine sp rfl<|sS (.agg (dR.map bv).toArray) (qg (args:=#[z.v]) (λw' hw=>by
  rw [hdR]
  obtain ⟨Az,cz,e,e1,e2,e3⟩:=dsrc_own hz (λb hb=>by simp [hb]) hw h32
  rw [e,List.length_map,h2]
  rw [List.length_map,h2] at e1
  exact Sh.rootR_any k w' Az (l.map leafT) k cz (Nat.le_refl _) (by rw [List.length_map,h2]) (by omega) e3 e1 (by simpa only [maxLen] using e2) (tbR_st ht hw))) ?_
 refine sw 0 rfl (dR.map bv).toArray (Writes.row 28 (dR.map bv) 32 _ _ rfl kR kR kR hdl (by simp) (λu hu=>by obtain ⟨b,_,rfl⟩:=List.mem_map.1 hu; rfl)) ?_
 refine sG<|Sy.ret ?_
 exact Sy.ret1 rfl (.inl (Sy.Res.cell (ty':=28) g2 0 (dR.map bv).toArray _ rfl rfl Tryz.underlying28 rfl (by rw [List.size_toArray,hdl]; kernel_rfl) rfl))
end Wr
end
section
namespace Wr
open Go.RowKit Sy
set_option maxRecDepth 100000
set_option maxHeartbeats 4000000
theorem txIdR_any (w:World) (cs:List Value) (x:MTr) (hx:repTR (rdW w) cs x) (hwt:wtTR x≤1000000000) (ht:TbR w):Calls Tryz.prog 16 #[.agg cs.toArray] w (Gets w (.agg ((idTR x).map bv).toArray)):=by
 have hx0:=hx
 have hdom:=dom_bareT (domTR_of hx)
 obtain ⟨af,is,os⟩:=x
 obtain ⟨vi,vo,rfl,h1,hI,hO⟩:=hx
 dsimp only at h1 hI hO
 obtain ⟨A,n,cp,rfl,hn1,hn2,hn3,hn4⟩:=id hI
 obtain ⟨A2,n2,cp2,rfl,ho1,ho2,ho3,ho4⟩:=id hO
 show Calls Tryz.prog 16 #[.agg #[.int .u64 (af:Int),.slice A n cp,.slice A2 n2 cp2]] w _
 have hx0:repTR (rdW w) [.int .u64 (af:Int),.slice A n cp,.slice A2 n2 cp2] ⟨af,is,os⟩:=hx0
 refine Sy.enter (args:=[.agg #[.int .u64 (af:Int),.slice A n cp,.slice A2 n2 cp2]]) Tryz.func16 rfl kL ?_
 refine sC ?_
 refine sM 26 #[.int .u64 (af:Int),.slice A n cp,.slice A2 n2 cp2] (λg1=>?_)
 refine sM 28 ((List.replicate 32 (0:UInt8)).map bv).toArray (λg2=>?_)
 refine sA ?_
 obtain ⟨d,hd⟩:∃ d,d=idTR ⟨af,is,os⟩:=⟨_,rfl⟩
 have hdl:(d.map bv).length=32:=by rw [List.length_map,hd]; exact tagged_len _ _
 rw [← hd]
 have old:∀ {L:Blocks} (w':World),St (Base.of w) w' L→Le (rdW w) (rdW w'):=λw' hw g o u h=>rdC_world (w0:=Base.of w) (R:=[]) hw (λ_ h=>by cases h) g o u (.inl h)
 refine sS (.agg #[.int .u64 (af:Int),.slice A n cp,.slice A2 n2 cp2]) (qk 0 0 3 rfl rfl Tryz.underlying26) ?_
 refine Sy.callN kR 43 #[.agg #[.int .u64 (af:Int),.slice A n cp,.slice A2 n2 cp2]] kF (BrR (rdW w) af (.slice A2 n2 cp2) (is.map bareI)) (λw' hw=>by
  obtain ⟨vo,e1,_,_,_,q⟩:=bareR_at w' (rdW w) (old w' hw) [.int .u64 (af:Int),.slice A n cp,.slice A2 n2 cp2] ⟨af,is,os⟩ hx0 (by omega)
  cases e1
  exact q) (λu M0 hM=>?_)
 obtain ⟨y,rfl,rfl,hy⟩:=hM
 obtain ⟨Ay,cpy,hyv,hc1,hc2⟩:=hy.val
 rw [hyv]
 obtain ⟨ny,hny⟩:∃ ny,ny=(is.map bareI).length:=⟨_,rfl⟩
 rw [← hny] at hyv hc1 ⊢
 refine Sy.callN kR 25 #[.agg #[.int .u64 (af:Int),.slice Ay ny cpy,.slice A2 n2 cp2]] kF (BytE (okTR (bareT ⟨af,is,os⟩)) (encTR (bareT ⟨af,is,os⟩))) (λw' hw=>txR_w w' (bareT ⟨af,is,os⟩) [.int .u64 (af:Int),.slice Ay ny cpy,.slice A2 n2 cp2] ⟨_,_,rfl,h1,by
   rw [← hyv]
   exact RowsX.lst (rep:=repIN) (C:=rdW w) (D:=rdW w') monoIN (old w' hw) (λg o u h=>rdC_world (R:=y.bl) hw (λb hb=>by simp [hb]) g o u (.inr h)) hy,LstR.le (rep:=repOU) monoOU (old w' hw) hO⟩ (by have:=wt_bareT ⟨af,is,os⟩; omega)) (λu M hM=>?_)
 obtain ⟨u,rfl,hb⟩:=hM.uni
 have hb0:=hb
 obtain ⟨Au,nu,cu,rfl,u2,u3,u4,u5⟩:=hb
 refine sp rfl<|sp rfl<|sp rfl<|sp rfl<|sp rfl ?_
 refine sA ?_
 refine sp rfl ?_
 refine Sy.make kR 29 #[.slice Au nu cu] (λg=>.slice (some ⟨g,0,none⟩) 1 1) kF (λg3=>?_)
 have hlen:=lnTR hdom
 have hlw:=wt_bareT ⟨af,is,os⟩
 refine sS (.agg (d.map bv).toArray) (qg (λw' hw=>by
  rw [hd]
  exact tagR_one w' txNm (by decide) g3 (.slice Au nu cu) _ (hb0.le (λg o u h=>rdC_world (R:=M) hw (λb hb=>by simp [hb]) g o u (.inr h))) (hw.blk g3 _ _ (by simp)).2 (lnE (by omega)) (tbR_st ht hw))) ?_
 refine sw 1 rfl (d.map bv).toArray (Writes.row 28 (d.map bv) 32 _ _ rfl kR kR kR hdl (by simp) (λu hu=>by obtain ⟨b,_,rfl⟩:=List.mem_map.1 hu; rfl)) ?_
 refine sG<|Sy.ret ?_
 exact Sy.ret1 rfl (.inl (Sy.Res.cell (ty':=28) g2 1 (d.map bv).toArray _ rfl rfl Tryz.underlying28 rfl (by rw [List.size_toArray,hdl]; kernel_rfl) rfl))
end Wr
end
section
namespace Wr
open Go.RowKit Sy
set_option maxRecDepth 100000
set_option maxHeartbeats 4000000
theorem eql_dgs_same (w:World) (F:Slots) (o:Oper) (x y:Operand) (a:List UInt8) (ha:a.length=32) {yt:TypeId} (ho:o.op=.binOp .eql 28 x y yt) (hx:evF F x=.agg (a.map bv).toArray) (hy:evF F y=.agg (a.map bv).toArray):(execOp (evF F) o).run Tryz.prog w=.ok (.value (.bool true)) w:=by
 have q:=eql_dgs w F o x y a a ha ha ho hx hy
 rwa [decide_eq_true rfl] at q
theorem mem_sum {α:Type} (f:α→Nat):∀ {l:List α} {x:α},x∈l→f x≤(l.map f).sum
 | a::l,x,h=>by
  rw [List.map_cons,List.sum_cons]
  rcases List.mem_cons.1 h with rfl | h
  ·omega
  ·have:=mem_sum f h; omega
theorem law_wirenames (w:World) (tcs:List Value) (x:MTr) (hx:repTR (rdW w) tcs x) (hwt:wtTR x≤1000000000) (bcs:List Value) (b:MBl) (hb:repBL (rdW w) bcs b) (hwb:wtBL b≤1000000000) (hnb:b.txs.length≤1048576) (ccs:List Value) (c:MCf) (hc:repCF (rdW w) ccs c) (hwc:wtCF c≤1000000000) (ht:TbS w) (ht2:TbR w):Calls Tryz.prog 4 #[.agg tcs.toArray,.agg bcs.toArray,.agg ccs.toArray] w (Gets w (.bool true)):=by
 have hlt:=lenTR hx
 have hlb:=lenBL hb
 have hlc:=lenCF hc
 have hx0:=hx
 have hc0:=hc
 obtain ⟨ch,vs,vt,ebc,hH,hS,hT⟩:=hb
 have hlh:=lenHE hH
 have hH0:=hH
 obtain ⟨vr,vk,ech,p1,p2,p3,p4,p5,p6,p7⟩:=hH
 obtain ⟨cp,cm,vc,ecc,c1,c2,c3,c4,c5⟩:=hc
 have hlcp:=lenPA c3
 have hlcm:cm.length=66:=by
  obtain ⟨e,h1,h2,_⟩:=c4
  rw [e]; simp [h1,h2]
 obtain ⟨vi,vo,etc,t1,t2,t3⟩:=hx
 have hwh:wtHE b.header≤1000000000:=by unfold wtBL at hwb; omega
 have hwx:∀ y∈b.txs,wtTR y≤1000000000:=λy hy=>by
  have q:=mem_sum wtTR hy
  unfold wtBL at hwb
  omega
 obtain ⟨At,nt,ct,evt,q2,q3,q4,q5⟩:=id hT
 have tl:bcs.length=104:=hlb
 have hTime:bcs[33]? = some (.int .u64 (b.header.time:Int)):=by
  rw [ebc,ech]
  show (_++_)[33]? = _
  unfold cHE
  have e1:(b.header.prev.map bv).length=32:=by rw [List.length_map,p1]
  rw [List.append_assoc,List.getElem?_append_right (by omega),e1]
  rfl
 have hTxs:bcs[103]? = some vt:=by
  rw [ebc,List.getElem?_append_right (by omega),hlh]
  rfl
 have hHd:(bcs.drop 0).take 102=ch:=by
  rw [List.drop_zero,ebc, ← hlh,List.take_left]
 have hMn:(ccs.drop 35).take 66=cm:=by
  rw [ecc]
  have e1:(c.peg.map bv).length=32:=by rw [List.length_map,c1]
  have e2:c.peg.map bv++([Value.int .u64 (c.depth:Int)]++(cp++(cm++[vc])))=(c.peg.map bv++([Value.int .u64 (c.depth:Int)]++cp))++(cm++[vc]):=by simp only [List.append_assoc]
  have e3:(c.peg.map bv++([Value.int .u64 (c.depth:Int)]++cp)).length=35:=by
   rw [List.length_append,List.length_append,e1,hlcp]; rfl
  rw [e2, ← e3,List.drop_left, ← hlcm,List.take_left]
 have hAf:tcs[0]? = some (.int .u64 (x.after:Int)):=by rw [etc]; rfl
 refine Sy.enter (args:=[.agg tcs.toArray,.agg bcs.toArray,.agg ccs.toArray]) Tryz.func4 rfl kL ?_
 refine sC ?_
 refine sM 26 tcs.toArray (λg3=>?_) kR (λw=>run_boxR rfl rfl (by kernel_rfl) hlt w)
 refine sM 38 bcs.toArray (λg4=>?_) kR (λw=>run_boxR rfl rfl (by kernel_rfl) hlb w)
 refine sM 56 ccs.toArray (λg5=>?_) kR (λw=>run_boxR rfl rfl (by kernel_rfl) hlc w)
 refine sP (.bool false) ?_
 refine sA ?_
 have old:∀ {L:Blocks} (w':World),St (Base.of w) w' L→Le (rdW w) (rdW w'):=λw' hw g o u h=>rdC_world (w0:=Base.of w) (R:=[]) hw (λ_ h=>by cases h) g o u (.inl h)
 refine sP (.pointer (some ⟨g3,0,none⟩))<|sS (.int .u64 (x.after:Int)) (Quiet.cell 0 g3 0 26 22 tcs.toArray _ _ rfl rfl rfl Tryz.underlying22 rfl _ (by rw [List.getElem?_toArray]; exact hAf))<|sP (.pointer (some ⟨g4,0,none⟩))<|sP (.pointer (some ⟨g4,33,none⟩))<|sS (.int .u64 (b.header.time:Int)) (Quiet.cell 1 g4 33 38 22 bcs.toArray _ _ rfl rfl rfl Tryz.underlying22 rfl _ (by rw [List.getElem?_toArray]; exact hTime)) ?_
 obtain ⟨mo,hmo⟩:∃ mo:List Value,mo=.int .u64 (b.header.time:Int)::List.replicate 32 (.int .u8 0):=⟨_,rfl⟩
 refine sP (.agg (.int .u64 (b.header.time:Int)::(List.replicate 32 (Value.int .u8 0))).toArray) ?_
 refine Sy.make kR 58 (.int .u64 (b.header.time:Int)::(List.replicate 32 (Value.int .u8 0))).toArray (λg=>.slice (some ⟨g,0,none⟩) 1 1) kF (λgO=>?_)
 refine sP (.agg #[.int .u64 (x.after:Int),.slice (some ⟨gO,0,none⟩) 1 1]) ?_
 refine sM 61 #[.int .u64 0,.slice none 0 0] (λg7=>?_)
 refine sw 4 rfl #[.int .u64 (x.after:Int),.slice (some ⟨gO,0,none⟩) 1 1] (wA rfl) ?_
 refine sG ?_
 obtain ⟨d1,hd1⟩:∃ d,d=idTR x:=⟨_,rfl⟩
 obtain ⟨d2,hd2⟩:∃ d,d=Sh.taggedS hdNm.data.toList (byE (okHE b.header) (encHE b.header)):=⟨_,rfl⟩
 obtain ⟨d3,hd3⟩:∃ d,d=rootT b.txs:=⟨_,rfl⟩
 obtain ⟨d4,hd4⟩:∃ d,d=Sh.taggedS mnNm.data.toList (encMH c.main):=⟨_,rfl⟩
 obtain ⟨d5,hd5⟩:∃ d,d=Sh.taggedS gnNm.data.toList (byE (okCF c) (encCF c)):=⟨_,rfl⟩
 obtain ⟨mt,hmt⟩:∃ mt:MTx,mt=⟨x.after,[⟨b.header.time,List.replicate 32 0⟩]⟩:=⟨_,rfl⟩
 obtain ⟨d6,hd6⟩:∃ d,d=Sh.taggedS mtNm.data.toList (byE (okMT mt) (encMT mt)):=⟨_,rfl⟩
 have l1:d1.length=32:=by rw [hd1]; exact tagged_len _ _
 have l2:d2.length=32:=by rw [hd2]; exact tagged_len _ _
 have l3:d3.length=32:=by rw [hd3]; exact rootT_len _
 have l4:d4.length=32:=by rw [hd4]; exact tagged_len _ _
 have l5:d5.length=32:=by rw [hd5]; exact tagged_len _ _
 have l6:d6.length=32:=by rw [hd6]; exact tagged_len _ _
 have hwm:wtMT mt≤1000000000:=by rw [hmt]; unfold wtMT; show 8+(9+(40+0))≤1000000000; decide
 have rm:∀ (w':World) (L:Blocks),St (Base.of w) w' L→(gO,58,(.int .u64 (b.header.time:Int)::(List.replicate 32 (Value.int .u8 0))).toArray)∈L→repMT (rdW w') [.int .u64 (x.after:Int),.slice (some ⟨gO,0,none⟩) 1 1] mt:=λw' L hw hm=>by
  have hk:=(hw.blk gO _ _ hm).2
  rw [hmt]
  refine ⟨_,rfl,t1,_,1,1,rfl,rfl,Nat.le_refl _,by decide,λ_=>⟨gO,0,rfl,λj z hz=>?_⟩⟩
  match j,hz with
  | 0,hz =>
   cases hz
   exact ⟨.int .u64 (b.header.time:Int)::(List.replicate 32 (Value.int .u8 0)),rfl,by
    intro u hu
    rcases List.mem_cons.1 hu with rfl | hu
    ·rfl
    ·rw [List.eq_of_mem_replicate hu]; rfl,⟨rfl,p5,rfl⟩,λi u hu=>⟨hk.lt,by rw [Nat.zero_mul,Nat.zero_add]; exact (hk.cell i).trans (by rw [List.getElem?_toArray]; exact hu)⟩⟩
 have mO:(gO,58,(.int .u64 (b.header.time:Int)::(List.replicate 32 (Value.int .u8 0))).toArray)∈[(g3,26,tcs.toArray),(g4,38,bcs.toArray),(g5,56,ccs.toArray),(gO,58,(.int .u64 (b.header.time:Int)::(List.replicate 32 (Value.int .u8 0))).toArray),(g7,61,#[.int .u64 (x.after:Int),.slice (some ⟨gO,0,none⟩) 1 1])]:=by simp
 refine Sy.seq ?_
 refine Sy.regionD (λ_=>false) kR ?_
 refine sD 0 rfl (.bool true) (qg (λw' _=>alive12 w'))<|sa 1 rfl rfl<|sD 2 rfl (.agg tcs.toArray) (Quiet.mid 0 g3 0 3 26 26 tcs tcs _ _ rfl kR rfl Tryz.underlying26 rfl kR (by rw [List.drop_zero,List.take_of_length_le (by omega)]) (by omega))<|sD 3 rfl (.agg (d1.map bv).toArray) (qg (λw' hw=>by rw [hd1]; exact txId_any w' tcs x (monoTR (old w' hw) hx0) hwt (tbS_st ht hw)))<|sD 4 rfl (.agg tcs.toArray) (Quiet.mid 0 g3 0 3 26 26 tcs tcs _ _ rfl kR rfl Tryz.underlying26 rfl kR (by rw [List.drop_zero,List.take_of_length_le (by omega)]) (by omega))<|sD 5 rfl (.agg (d1.map bv).toArray) (qg (λw' hw=>by rw [hd1]; exact txIdR_any w' tcs x (monoTR (old w' hw) hx0) hwt (tbR_st ht2 hw)))<|sD 6 rfl (.bool true) (Quiet.pure (λw'=>eql_dgs_same w' _ _ _ _ d1 l1 rfl rfl rfl))<|sb 7 rfl (.bool true)<|sa 8 rfl rfl<|sb 9 rfl (.pointer (some ⟨g4,0,none⟩))<|sD 10 rfl (.agg ch.toArray) (Quiet.mid 1 g4 0 102 38 34 bcs ch _ _ rfl kR rfl Tryz.underlying34 rfl kR hHd (by omega))<|sD 11 rfl (.agg (d2.map bv).toArray) (qg (λw' hw=>by rw [hd2]; exact hdId_any w' ch b.header (monoHE (old w' hw) hH0) hlh hwh (tbS_st ht hw)))<|sb 12 rfl (.pointer (some ⟨g4,0,none⟩))<|sD 13 rfl (.agg ch.toArray) (Quiet.mid 1 g4 0 102 38 34 bcs ch _ _ rfl kR rfl Tryz.underlying34 rfl kR hHd (by omega))<|sD 14 rfl (.agg (d2.map bv).toArray) (qg (λw' hw=>by rw [hd2]; exact hdIdR_any w' ch b.header (monoHE (old w' hw) hH0) hlh hwh (tbR_st ht2 hw)))<|sD 15 rfl (.bool true) (Quiet.pure (λw'=>eql_dgs_same w' _ _ _ _ d2 l2 rfl rfl rfl))<|sb 16 rfl (.bool true)<|sa 17 rfl rfl<|sb 18 rfl (.pointer (some ⟨g4,103,none⟩))<|sD 19 rfl vt (Quiet.cell 1 g4 103 38 36 bcs.toArray _ _ rfl rfl rfl Tryz.underlying36 rfl _ (by rw [List.getElem?_toArray]; exact hTxs))<|sD 20 rfl (.agg (d3.map bv).toArray) (qg (λw' hw=>by rw [hd3]; exact root_tx w' vt b.txs (LstR.le (rep:=repTR) monoTR (old w' hw) hT) hnb hwx (tbS_st ht hw)))<|sb 21 rfl (.pointer (some ⟨g4,103,none⟩))<|sD 22 rfl vt (Quiet.cell 1 g4 103 38 36 bcs.toArray _ _ rfl rfl rfl Tryz.underlying36 rfl _ (by rw [List.getElem?_toArray]; exact hTxs))<|sD 23 rfl (.agg (d3.map bv).toArray) (qg (λw' hw=>by rw [hd3]; exact rootR_tx w' vt b.txs (LstR.le (rep:=repTR) monoTR (old w' hw) hT) hnb hwx (tbR_st ht2 hw)))<|sD 24 rfl (.bool true) (Quiet.pure (λw'=>eql_dgs_same w' _ _ _ _ d3 l3 rfl rfl rfl))<|sb 25 rfl (.bool true)<|sa 26 rfl rfl<|sb 27 rfl (.pointer (some ⟨g5,35,none⟩))<|sD 28 rfl (.agg cm.toArray) (Quiet.mid 2 g5 35 66 56 54 ccs cm _ _ rfl kR rfl Tryz.underlying54 rfl kR hMn (by omega))<|sD 29 rfl (.agg (d4.map bv).toArray) (qg (λw' hw=>by rw [hd4]; exact mnId_any w' cm c.main c4 (tbS_st ht hw)))<|sb 30 rfl (.pointer (some ⟨g5,35,none⟩))<|sD 31 rfl (.agg cm.toArray) (Quiet.mid 2 g5 35 66 56 54 ccs cm _ _ rfl kR rfl Tryz.underlying54 rfl kR hMn (by omega))<|sD 32 rfl (.agg (d4.map bv).toArray) (qg (λw' hw=>by rw [hd4]; exact mnIdR_any w' cm c.main c4 (tbR_st ht2 hw)))<|sD 33 rfl (.bool true) (Quiet.pure (λw'=>eql_dgs_same w' _ _ _ _ d4 l4 rfl rfl rfl))<|sb 34 rfl (.bool true)<|sa 35 rfl rfl<|sD 36 rfl (.agg ccs.toArray) (Quiet.mid 2 g5 0 102 56 56 ccs ccs _ _ rfl kR rfl Tryz.underlying56 rfl kR (by rw [List.drop_zero,List.take_of_length_le (by omega)]) (by omega))<|sD 37 rfl (.agg (d5.map bv).toArray) (qg (λw' hw=>by rw [hd5]; exact gnId_any w' ccs c (monoCF (old w' hw) hc0) hlc hwc (tbS_st ht hw)))<|sD 38 rfl (.agg ccs.toArray) (Quiet.mid 2 g5 0 102 56 56 ccs ccs _ _ rfl kR rfl Tryz.underlying56 rfl kR (by rw [List.drop_zero,List.take_of_length_le (by omega)]) (by omega))<|sD 39 rfl (.agg (d5.map bv).toArray) (qg (λw' hw=>by rw [hd5]; exact gnIdR_any w' ccs c (monoCF (old w' hw) hc0) hlc hwc (tbR_st ht2 hw)))<|sD 40 rfl (.bool true) (Quiet.pure (λw'=>eql_dgs_same w' _ _ _ _ d5 l5 rfl rfl rfl))<|sb 41 rfl (.bool true)<|sa 42 rfl rfl<|sD 43 rfl (.agg #[.int .u64 (x.after:Int),.slice (some ⟨gO,0,none⟩) 1 1]) (qk 4 0 2 rfl rfl Tryz.underlying61)<|sD 44 rfl (.agg (d6.map bv).toArray) (qg (λw' hw=>by rw [hd6]; exact mtId_any w' [.int .u64 (x.after:Int),.slice (some ⟨gO,0,none⟩) 1 1] mt (rm w' _ hw mO) rfl hwm (tbS_st ht hw)))<|sD 45 rfl (.agg #[.int .u64 (x.after:Int),.slice (some ⟨gO,0,none⟩) 1 1]) (qk 4 0 2 rfl rfl Tryz.underlying61)<|sD 46 rfl (.agg (d6.map bv).toArray) (qg (λw' hw=>by rw [hd6]; exact mtIdR_any w' [.int .u64 (x.after:Int),.slice (some ⟨gO,0,none⟩) 1 1] mt (rm w' _ hw mO) rfl hwm (tbR_st ht2 hw)))<|sD 47 rfl (.bool true) (Quiet.pure (λw'=>eql_dgs_same w' _ _ _ _ d6 l6 rfl rfl rfl))<|sb 48 rfl (.bool true)<|sa 49 rfl rfl ?_
 refine sE ?_
 refine Sy.then_<|Sy.ret ?_
 exact rV (.bool true) rfl
end Wr
end
end Go.Proofs.YtgggdbjakcpanaaGreatDoor
