/-
  Texts of ours, put together: SigA, SigB, WirHB, WirHC, ScRefN, ScFold, ScRefAdd, ScRefMul, ScNum, CrvO, CrvV, RefNumT, WirGQ, WirGT, WirGU, WirHD, WirHE, WirHF, WirHG, ScpA, ScpB, ScpC, ScpD, ScpE, ScpF.
-/
import Derived.Test.YtgggdbjakcpanaaGreatDoorMX4
set_option linter.unusedVariables false
set_option linter.unusedSimpArgs false
namespace Go.Proofs.YtgggdbjakcpanaaGreatDoor
section
namespace Cu
open Go.RowKit Sy
set_option maxRecDepth 100000
set_option maxHeartbeats 4000000
end Cu
end
section
namespace Cu
open Go.RowKit Sy
theorem texts_blk {w:World} {g:Nat} {t:TypeId} {ts:List Sh.Tx} (hb:Blk w g t (ts.map Sh.Tx.val).toArray) (hok:∀ x∈ts,x.ok w):Sh.Texts w (some ⟨g,0,none⟩) ts:=λ_ =>
 ⟨g,0,rfl,hb.lt,λj y hy=>by
  rw [Nat.zero_add]
  refine ⟨(hb.cell j).trans ?_,hok y (List.mem_of_getElem? hy)⟩
  rw [List.getElem?_toArray,List.getElem?_map,hy]
  rfl⟩
theorem tag_c (w:World) (nm:ByteArray) (hnm:nm.size≤1000000000) (g:Nat) (t:TypeId) (ts:List Sh.Tx) (n ct:Nat) (X:List UInt8) (hX:Sh.cat ts=X) (hn:ts.length=n) (hb:Blk w g t (ts.map Sh.Tx.val).toArray) (hok:∀ x∈ts,x.ok w) (hl:X.length≤1000000000) (hn2:n≤1000000000) (ht:Sh.TabAt w 1) :
  Calls Tryz.prog 33 #[.string nm,.slice (some ⟨g,0,none⟩) n ct] w (Gets w (.agg ((Sh.taggedS nm.data.toList X).map bv).toArray)):=by
 subst hX hn
 exact Sh.tagged_any w nm _ ts ct (texts_blk hb hok) ht hnm hl hn2
end Cu
end
section
namespace Wr
open Go.RowKit Sy
set_option maxRecDepth 100000
set_option maxHeartbeats 4000000
theorem lnL {α:Type} {f:α→Byt} {wt:α→Nat} {l:List α} (h:∀ x∈l,(f x).length≤wt x):(encL f l).length≤9+(l.map wt).sum:=by
 have q:=varB_len l.length
 have key:∀ l:List α,(∀ x∈l,(f x).length≤wt x)→(l.flatMap f).length≤(l.map wt).sum:=λl=>by
  induction l with
  | nil=>exact λ_=>Nat.le_refl 0
  | cons x l ih =>
   intro h
   have a:=h x (List.mem_cons_self ..)
   have b:=ih λy hy=>h y (List.mem_cons_of_mem _ hy)
   rw [List.flatMap_cons,List.length_append,List.map_cons,List.sum_cons]
   omega
 have k:=key l h
 unfold encL
 rw [List.length_append]
 omega
theorem lnT (b:Byt):(encT b).length≤9+b.length:=by
 have q:=varB_len b.length
 unfold encT
 rw [List.length_append]; omega
theorem lnPT (p:MPt):(encPT p).length=33:=Cu.encS_length _
theorem lnTG {t:MTag} (h:domTG t):(encTG t).length≤34:=by
 have q:=lnPT t.pt
 have q2:=h.1
 unfold encTG
 rw [List.length_append]
 split <;> simp only [List.length_cons,List.length_nil] <;> omega
theorem lnAM (t:MAmt):(encAM t).length≤34:=by
 have q:=lnPT t.pt
 have q2:=nb_len 8 t.value
 unfold encAM
 rw [List.length_append]
 split <;> simp only [List.length_cons,List.length_nil] <;> omega
theorem lnOU {o:MOu} (h:domOU o):(encOU o).length≤wtOU o:=by
 have q1:=lnTG h.2.1
 have q2:=lnAM o.amount
 have q3:=lnT o.range
 have q4:=lnT o.surject
 have q5:=lnT o.note
 have q6:=lnT o.script
 unfold encOU wtOU
 simp only [List.length_append,List.length_cons,List.length_nil]
 omega
theorem lnIS {i:MIs} (h:domIS i):(encIS i).length≤wtIS i:=by
 have q1:=lnAM i.amount
 have q2:=lnT i.range
 have q3:=nb_len 8 i.tokens
 have q4:=h.2.2.2.1
 have q5:(encSC i.blind).length=32:=by unfold encSC; exact bytesS_length _
 unfold encIS wtIS bodyIS
 split <;> simp only [List.length_append,List.length_cons,List.length_nil] <;> omega
theorem lnPG {p:MPg} (h:domPG p):(encPG p).length≤wtPG p:=by
 have q1:=h.1
 have q2:=lnT p.tx
 have q3:=nb_len 4 p.place
 have q4:=nb_len 4 p.many
 have q5:=lnL (f:=λd:Byt=>d) (wt:=λ_=>32) (l:=p.path) (λx hx=>Nat.le_of_eq (h.2.2.2.2.1.2 x hx))
 have q6:=lnT p.script
 unfold encPG wtPG
 simp only [List.length_append]
 omega
theorem lnIN {i:MIn} (h:domIN i):(encIN i).length≤wtIN i:=by
 have q1:=h.1
 have q2:=nb_len 4 i.index
 have q3:=lnIS h.2.2.1
 have q4:=lnPG h.2.2.2.1
 have q5:=lnL (f:=encT) (wt:=wtT) (l:=i.wit) (λx _=>lnT x)
 unfold encIN wtIN
 split <;> simp only [List.length_append,List.length_cons,List.length_nil] <;> omega
theorem lnTR {t:MTr} (h:domTR t):(encTR t).length≤wtTR t:=by
 have q1:=nb_len 8 t.after
 have q2:=lnL (f:=encIN) (wt:=wtIN) (l:=t.ins) (λx hx=>lnIN (h.2.1.2 x hx))
 have q3:=lnL (f:=encOU) (wt:=wtOU) (l:=t.outs) (λx hx=>lnOU (h.2.2.2 x hx))
 unfold encTR wtTR
 simp only [List.length_append]
 omega
theorem lnE {ok:Bool} {e:Byt} {n:Nat} (h:e.length≤n):(byE ok e).length≤n:=by
 cases ok
 ·exact Nat.zero_le _
 ·exact h
theorem dom_bareT {t:MTr} (h:domTR t):domTR (bareT t):=by
 refine ⟨h.1,⟨by show (t.ins.map bareI).length<_; rw [List.length_map]; exact h.2.1.1,λo ho=>?_⟩,h.2.2⟩
 obtain ⟨x,hx,rfl⟩:=List.mem_map.1 ho
 have q:=h.2.1.2 x hx
 exact ⟨q.1,q.2.1,q.2.2.1,q.2.2.2.1,by show (0:Nat)<_; decide,λy hy=>by cases hy⟩
abbrev TbS (w:World):Prop:=Sh.TabAt w 1
theorem tbS_st {w0:Base} {w:World} {L:Blocks} (ht:TbS w0.world) (hw:St w0 w L):TbS w:=ht.below hw.below ht.lt
theorem srcW {w:World} {A:Option Addr} {n cp:Nat} {b:Byt} (h:BytR (rdW w) (.slice A n cp) b):Sh.Src w A b:=λhne=>by
 obtain ⟨A',n',cp',e,h2,h3,h4,h5⟩:=h
 injection e with e1 e2 e3
 subst e1
 obtain ⟨g,o,rfl,hq⟩:=h5 hne
 have hlt:0<b.length:=List.length_pos_iff.2 hne
 exact ⟨g,o,rfl,(hq 0 _ (List.getElem?_eq_getElem hlt)).1,λj u hu=>(hq j u hu).2⟩
theorem txOf {w:World} {v:Value} {b:Byt} (h:BytR (rdW w) v b):∃ x:Sh.Tx,x.val=v∧x.l=b∧x.ok w:=by
 have h0:=h
 obtain ⟨A,n,cp,rfl,h2,h3,h4,h5⟩:=h
 exact ⟨⟨A,b,cp⟩,by show Value.slice A b.length cp=_; rw [h2],rfl,srcW h0,by show b.length≤cp; omega,by simpa only [maxLen] using h4⟩
theorem tagged_len (n m:Byt):(Sh.taggedS n m).length=32:=Sh.sum_length _
def strip (k:Nat) (l:List MIn):List MIn:=(l.take k).map bareI++l.drop k
theorem strip_len (k:Nat) (l:List MIn):(strip k l).length=l.length:=by
 unfold strip; rw [List.length_append,List.length_map,List.length_take,List.length_drop]; omega
theorem strip_at {k:Nat} {l:List MIn} {x:MIn} (h:l[k]? = some x):(strip k l)[k]? = some x:=by
 have hk:=(List.getElem?_eq_some_iff.1 h).1
 unfold strip
 rw [List.getElem?_append_right (by rw [List.length_map,List.length_take]; omega),List.length_map,List.length_take,Nat.min_eq_left (Nat.le_of_lt hk),Nat.sub_self,List.getElem?_drop,Nat.add_zero]
 exact h
theorem strip_set {k:Nat} {l:List MIn} {x:MIn} (h:l[k]? = some x):(strip k l).set k (bareI x)=strip (k+1) l:=by
 have hk:=(List.getElem?_eq_some_iff.1 h).1
 have hx:=(List.getElem?_eq_some_iff.1 h).2
 unfold strip
 have hl:((l.take k).map bareI).length=k:=by rw [List.length_map,List.length_take]; omega
 rw [List.set_append_right _ _ (Nat.le_of_eq hl),hl,Nat.sub_self,List.drop_eq_getElem_cons hk,List.set_cons_zero,List.take_add_one,h,List.map_append,List.append_assoc]
 rfl
theorem strip_all (l:List MIn):strip l.length l=l.map bareI:=by
 unfold strip; rw [List.take_length,List.drop_length,List.append_nil]
theorem RowsX.open {α:Type} {C:Rdr} {e:TypeId} {k:Nat} {rep:Rdr→List Value→α→Prop} {r:Slc} {l:List α} (h:RowsX C e k rep r l) (hne:l≠[]):∃ g cap cells,r=⟨.slice (some ⟨g,0,none⟩) l.length cap,[(g,e,cells)]⟩:=by
 obtain ⟨xs,h1,h2,h3⟩:=h
 rcases h1.row with ⟨rfl,_⟩ | ⟨g,cap,tl,rfl,_⟩
 ·cases l with
  | nil=>exact (hne rfl).elim
  | cons=>cases h2
 ·exact ⟨g,cap,_,by rw [h2]⟩
theorem RowsX.val {α:Type} {C:Rdr} {e:TypeId} {k:Nat} {rep:Rdr→List Value→α→Prop} {r:Slc} {l:List α} (h:RowsX C e k rep r l):∃ A cap,r.v=.slice A l.length cap∧l.length≤cap∧cap≤maxLen:=by
 obtain ⟨xs,h1,h2,h3⟩:=h
 rcases h1.row with ⟨rfl,rfl⟩ | ⟨g,cap,tl,rfl,q1,q2,q3⟩
 ·exact ⟨none,0,by rw [← h2]; rfl,by rw [← h2]; exact Nat.le_refl 0,Nat.zero_le _⟩
 ·exact ⟨_,cap,by rw [h2],by omega,q3⟩
end Wr
end
section
namespace Wr
open Go.RowKit Sy
set_option maxRecDepth 100000
set_option maxHeartbeats 4000000
theorem sum_ge1 {α:Type} {wt:α→Nat} (h:∀ x,1≤wt x) (l:List α):l.length≤(l.map wt).sum:=by
 induction l with
 | nil=>exact Nat.le_refl 0
 | cons x l ih=>have q:=h x; rw [List.length_cons,List.map_cons,List.sum_cons]; omega
end Wr
end
section
namespace Sc
open Go.RowKit Go.Lib
def modV:Value:=.agg #[.int .u64 13822214165235122497,.int .u64 13451932020343611451,.int .u64 18446744073709551614,.int .u64 18446744073709551615,.int .u64 4624529908474429119,.int .u64 4994812053365940164,.int .u64 1]
theorem fv_P:fv 115792089237316195423570985008687907852837564279074904382605163141518161494337=.agg #[.int .u64 13822214165235122497,.int .u64 13451932020343611451,.int .u64 18446744073709551614,.int .u64 18446744073709551615]:=rfl
theorem refN_any (w:World):Calls Tryz.prog 274 #[] w λe w'=>e=.returned modV∧Below w.heap.size w w':=by
 go_enter Tryz.func274,Tryz.ntmps274
 go_wp2
 exact bodyPost_ret (results_cell_row rfl _ _ w.heap.size _ _ (0,0) _ rfl (heap_alloc_new w _) Tryz.underlying397 rfl (by kernel_rfl)) rfl ⟨rfl,(Below.refl _ _).alloc (Nat.le_refl _) _⟩
theorem refOf_any (w:World) (n:Nat) (hn:n<(2^256)):Calls Tryz.prog 275 #[fv n] w λe w'=>e=.returned (fv n)∧Below w.heap.size w w':=by
 obtain ⟨a,b,c,d,fn⟩:=words_fv n hn
 rw [fn]
 clear fn
 go_enter Tryz.func275,Tryz.ntmps275
 go_wp2
 exact bodyPost_ret (results_cell_row rfl _ _ (w.heap.size+1) _ _ (0,0) _ rfl (heap_alloc2_new w _ _) Tryz.underlying373 rfl (by kernel_rfl)) rfl ⟨rfl,below_alloc2 w _ _⟩
theorem refSc_any (w:World) (n:Nat) (hn:n<(2^256)):Calls Tryz.prog 272 #[fv n] w λe w'=>e=.returned (fv n)∧Below w.heap.size w w':=by
 obtain ⟨a,b,c,d,fn⟩:=words_fv n hn
 rw [fn]
 clear fn
 go_enter Tryz.func272,Tryz.ntmps272
 go_wp2
 exact bodyPost_ret (results_cell_row rfl _ _ (w.heap.size+1) _ _ (0,0) _ rfl (heap_alloc2_new w _ _) Tryz.underlying76 rfl (by kernel_rfl)) rfl ⟨rfl,below_alloc2 w _ _⟩
set_option maxHeartbeats 2000000 in
set_option maxRecDepth 100000 in
theorem normR_any (w:World) (x:Nat) (hx:x<(2^256)):Calls Tryz.prog 273 #[modV,fv x] w λe w'=>e=.returned (fv (x%pM))∧Below w.heap.size w w':=by
 obtain ⟨z,hz⟩:∃ z,z=x%pM:=⟨_,rfl⟩
 obtain ⟨p,hp⟩:∃ p,p=115792089237316195423570985008687907852837564279074904382605163141518161494337:=⟨_,rfl⟩
 have hpl:p<(2^256):=by omega
 obtain ⟨b,hb⟩:∃ b,b=decide (x<p):=⟨_,rfl⟩
 have cb:∀ w,Calls Tryz.prog 303 #[fv x,fv p] w λe w'=>e=.returned (.bool b)∧Below w.heap.size w w':=by
  intro w; rw [hb]; exact below_at w x p rfl rfl hx hpl
 have t1:b=true→z=x:=λh=>by
  rw [hb] at h
  rw [hz]
  exact Nat.mod_eq_of_lt (by rw [pM_eq, ← hp]; simpa using h)
 have cm:b=false→∀ w,Calls Tryz.prog 304 #[fv x,fv p] w λe w'=>e=.returned (fv z)∧Below w.heap.size w w':=λh w=>by
  rw [hb] at h
  have hle:¬ x<p:=by simpa using h
  have hzx:z+p=x:=by rw [hz,red_once x hx,if_neg (by omega)]; omega
  exact minusR_at w x p z 0 rfl rfl hx hpl (by omega) (by omega)
 have hpc:fv p=.agg #[.int .u64 13822214165235122497,.int .u64 13451932020343611451,.int .u64 18446744073709551614,.int .u64 18446744073709551615]:=by rw [hp]; exact fv_P
 obtain ⟨x0,x1,x2,x3,fx⟩:=words_fv x hx
 have FX:=Lib.hid fx
 have FP:=Lib.hid hpc
 rw [fx, ← hz]
 unfold modV
 clear fx hpc hx hz hp hpl hb
 go_enter Tryz.func273,Tryz.ntmps273
 go_wp2_with (first | ((with_reducible refine here_load (d:=some 6) ?_); refine wpList_load_fv rfl _ _ rfl (w.heap.size+1) rfl (x) _ _ _ ((blk_new2 w _ _ _).alloc _) (FX.out) Tryz.underlying373 rfl (by kernel_rfl) ?_) | ((with_reducible refine here_load (d:=some 8) ?_); refine wpList_load_part rfl _ _ rfl w.heap.size rfl p [.int .u64 13822214165235122497,.int .u64 13451932020343611451,.int .u64 18446744073709551614,.int .u64 18446744073709551615] _ (mod_range (((Blk.new w _ _).alloc _).alloc _)) FP.out Tryz.underlying373 rfl (by kernel_rfl) ?_))
 refine (cb _).mono ?_
 rintro e w1 ⟨rfl,k1⟩
 have BM:Blk w1 w.heap.size 397 _:=Gr.blk k1 (((Blk.new w _ _).alloc _).alloc _)
 have BX:Blk w1 (w.heap.size+1) 373 _:=Gr.blk k1 ((blk_new2 w _ _ _).alloc _)
 have BR:Blk w1 (w.heap.size+2) 373 _:=Gr.blk k1 (blk_new3 w _ _ _ _)
 have hB:=Below.gr (below_alloc3 w _ _ _) k1
 clear k1 cb
 cases b
 ·have cmm:=cm rfl
  clear cm t1
  go_wp2_with (first | ((with_reducible refine here_load (d:=some 12) ?_); refine wpList_load_fv rfl _ _ rfl (w.heap.size+1) rfl (x) _ _ _ (BX) (FX.out) Tryz.underlying373 rfl (by kernel_rfl) ?_) | ((with_reducible refine here_load (d:=some 14) ?_); refine wpList_load_part rfl _ _ rfl w.heap.size rfl p [.int .u64 13822214165235122497,.int .u64 13451932020343611451,.int .u64 18446744073709551614,.int .u64 18446744073709551615] _ (mod_range (BM)) FP.out Tryz.underlying373 rfl (by kernel_rfl) ?_))
  refine (cmm _).mono ?_
  rintro e w2 ⟨rfl,k2⟩
  have BR2:=Gr.blk k2 BR
  have hB2:=Below.gr hB k2
  clear k2 cmm
  go_wp2_with (first | ((with_reducible refine here_store ?_); refine wpList_store_blk rfl _ _ _ rfl (w.heap.size+2) (fcs (z)) rfl rfl _ _ (BR2) (by kernel_rfl) (by rfl) (fcs_one _) ?_; intro w9 hL9 hB9 hK9))
  exact bodyPost_ret (results_cell_row rfl _ _ (w.heap.size+2) _ _ (0,0) _ rfl hL9 Tryz.underlying373 rfl (by kernel_rfl)) rfl ⟨rfl,hB2.trans (hB9 _ (by omega))⟩
 ·have HZX:=Lib.hid (t1 rfl)
  clear t1 cm
  go_wp2_with (first | ((with_reducible refine here_load (d:=some 11) ?_); refine wpList_load_fv rfl _ _ rfl (w.heap.size+1) rfl (x) _ _ _ (BX) (FX.out) Tryz.underlying373 rfl (by kernel_rfl) ?_) | ((with_reducible refine here_store ?_); refine wpList_store_blk rfl _ _ _ rfl (w.heap.size+2) (fcs (x)) rfl rfl _ _ (BR) (by kernel_rfl) (by rfl) (fcs_one _) ?_; intro w9 hL9 hB9 hK9))
  exact bodyPost_ret (results_cell_row rfl _ _ (w.heap.size+2) _ _ (0,0) _ rfl hL9 Tryz.underlying373 rfl (by kernel_rfl)) rfl ⟨by rw [HZX.out]; rfl,hB.trans (hB9 _ (by omega))⟩
end Sc
end
section
namespace Sc
open Go.RowKit Go.Lib
end Sc
end
section
namespace Sc
open Go.RowKit Go.Lib
section
variable {P:Program} {ops:Array Oper}
end
end Sc
end
section
namespace Sc
open Go.RowKit Go.Lib
end Sc
end
section
namespace Nt
end Nt
end
section
namespace Cu
open Go.RowKit Sy
set_option maxRecDepth 100000
set_option maxHeartbeats 4000000
end Cu
end
section
namespace Cu
open Go.RowKit Sy
set_option maxRecDepth 100000
set_option maxHeartbeats 4000000
def modN:Array Value:=#[.int .u64 13822214165235122497,.int .u64 13451932020343611451,.int .u64 18446744073709551614,.int .u64 18446744073709551615,.int .u64 4624529908474429119,.int .u64 4994812053365940164,.int .u64 1]
end Cu
end
section
section
open Go.RowKit Go.Lib
end
end
section
namespace Cu
open Go.RowKit Sy
set_option maxRecDepth 100000
set_option maxHeartbeats 4000000
theorem bytesN2 (w:World) (x:Nat) (hx:x<K4):Calls Tryz.prog 239 #[fv x] w (GetsN w (λvq Mq=>∃ (g:Nat) (sp:List Value) (cap:Nat),vq=.slice (some ⟨g,0,none⟩) 32 cap∧(32≤cap∧cap≤9223372036854775807)∧Mq=[(g,5,((bytesS x).map bv++sp).toArray)])):=by
 refine (bytesR_any w x hx).mono ?_
 rintro e w' ⟨g,cap,rfl,ho,hl,hb⟩
 rcases ho.2 with ⟨h0,_⟩ | ⟨g',cap',cur,hv,hg,hk,q3,q4,q5,q6⟩
 ·cases h0
 ·cases hv
  have h32:=bytesS_length x
  rw [bytesS_length] at q6
  have hc:cur=((bytesS x).map bv++cur.toList.drop 32).toArray:=by
   rw [Nat.mul_one] at q6
   rw [← q6,List.take_append_drop]
  refine ⟨_,[(g,5,cur)],rfl,⟨g,cur.toList.drop 32,cap,rfl,⟨by omega,by simp only [maxLen] at q4; omega⟩,by rw [← hc]⟩,hb,λg1 t1 cs1 hm=>?_,by simp⟩
  simp only [List.mem_singleton,Prod.mk.injEq] at hm
  obtain ⟨rfl,rfl,rfl⟩:=hm
  exact ⟨by omega,hk⟩
theorem nsc_any (w:World) (a:Nat) (ha:a<K4):Calls Tryz.prog 238 #[fv a] w (Gets w (fv (a%Sc.pM))):=by
 refine Sy.enter (args:=[fv a]) Tryz.func238 rfl kL ?_
 refine sC ?_
 refine sM 76 (fcs a) (λg0=>?_)
 refine sM 76 (fcs 0) (λg1=>?_)
 refine sH (λj=>j == 5) ?_
 refine sD 0 rfl (.agg modN) (qF 274 #[] (Sc.refN_any))<|sD 1 rfl (fv a) (qL 0 g0 0 4 76 76 (fcs a) rfl Tryz.underlying76)<|sD 2 rfl (fv a) (qF 275 #[fv a] (λw=>Sc.refOf_any w a (by first | assumption | exact Sc.mod_lt _ | exact lt4 _ | exact valB_lt32 _ (by first | assumption | exact bytesS_length _) | decide +kernel)))<|sD 3 rfl (fv (a%Sc.pM)) (qF 273 #[.agg modN,fv a] (λw=>Sc.normR_any w a (by first | assumption | exact Sc.mod_lt _ | exact lt4 _ | exact valB_lt32 _ (by first | assumption | exact bytesS_length _) | decide +kernel)))<|sD 4 rfl (fv (a%Sc.pM)) (qF 272 #[fv (a%Sc.pM)] (λw=>Sc.refSc_any w (a%Sc.pM) (by first | assumption | exact Sc.mod_lt _ | exact lt4 _ | exact valB_lt32 _ (by first | assumption | exact bytesS_length _) | decide +kernel)))<|sX 5 rfl 1 g1 76 (fcs 0) (fcs (a%Sc.pM)) (wS 0 76 (fcs (a%Sc.pM)) rfl) ?_
 refine sI ?_
 refine Sy.ret ?_
 exact rC (v:=fv (a%Sc.pM)) 76 g1 1 (fcs (a%Sc.pM)) rfl Tryz.underlying76
theorem bscN (w:World) (a:Nat) (ha:a<K4):Calls Tryz.prog 204 #[fv a] w (GetsN w (λvq Mq=>∃ (g:Nat) (sp:List Value) (cap:Nat),vq=.slice (some ⟨g,0,none⟩) 32 cap∧(32≤cap∧cap≤9223372036854775807)∧Mq=[(g,5,((bytesS (a%Sc.pM)).map bv++sp).toArray)])):=by
 refine Sy.enter (args:=[fv a]) Tryz.func204 rfl kL ?_
 refine sC ?_
 refine sM 76 (fcs a) (λg0=>?_)
 refine sP (.slice none 0 0) ?_
 refine sA ?_
 refine sS (fv a) (qL 0 g0 0 4 76 76 (fcs a) rfl Tryz.underlying76)<|sS (fv (a%Sc.pM)) (qF 238 #[fv a] (λw=>nsc_any w a (by first | assumption | exact Sc.mod_lt _ | exact lt4 _ | exact valB_lt32 _ (by first | assumption | exact bytesS_length _) | decide +kernel)))<|sS (fv (a%Sc.pM)) (qF 240 #[fv (a%Sc.pM)] (λw=>refOf_any w (a%Sc.pM) (by first | assumption | exact Sc.mod_lt _ | exact lt4 _ | exact valB_lt32 _ (by first | assumption | exact bytesS_length _) | decide +kernel))) ?_
 refine Sy.callN kR 239 #[fv (a%Sc.pM)] kF (λvq Mq=>∃ (g:Nat) (sp:List Value) (cap:Nat),vq=.slice (some ⟨g,0,none⟩) 32 cap∧(32≤cap∧cap≤9223372036854775807)∧Mq=[(g,5,((bytesS (a%Sc.pM)).map bv++sp).toArray)]) (λw _=>bytesN2 w (a%Sc.pM) (by first | assumption | exact Sc.mod_lt _ | exact lt4 _ | exact valB_lt32 _ (by first | assumption | exact bytesS_length _) | decide +kernel)) (λvq Mq hR0=>?_)
 obtain ⟨go1,spo1,cpo1,rfl,hcpo1,rfl⟩:=hR0
 refine sP (.slice (some ⟨go1,0,none⟩) 32 cpo1) ?_
 refine sG<|Sy.ret ?_
 exact retG 1 (go1,5,((bytesS (a%Sc.pM)).map bv++spo1).toArray) rfl (v:=.slice (some ⟨go1,0,none⟩) 32 cpo1) (.inl (show _=_ by kernel_rfl)) kR ⟨go1,spo1,cpo1,rfl,hcpo1,rfl⟩
end Cu
end
section
namespace Wr
open Go.RowKit Sy
set_option maxRecDepth 100000
set_option maxHeartbeats 4000000
theorem digWd (w0:Base) (gw:Nat) (bad:Bool) (s:Slc) (R:Blocks) (b:Byt) (x:Byt) (hx:x.length=32) (hb:BS s b) (hl:b.length+32≤70368744177000) (w:World) (hw:St w0 w (WB gw bad s R)) :
  Calls Tryz.prog 147 #[ptr gw,.agg (x.map bv).toArray] w (Turns w0 (Wd gw R true x 32 bad b)) :=
 (digW_any w0 gw bad s R b x hx hb (by omega) w hw).mono λe w' ⟨v,M,h1,⟨r,h2,h3⟩,h4⟩=>⟨v,M,h1,⟨r,bad,_,Wrote.raw x bad b (by omega),h2,h3⟩,h4⟩
theorem numWd (k:Nat) (hk:k≤8) (w0:Base) (gw:Nat) (bad:Bool) (s:Slc) (R:Blocks) (b:Byt) (n:Nat) (hn:n<18446744073709551616) (hb:BS s b) (hl:b.length+k≤70368744177000) (w:World) (hw:St w0 w (WB gw bad s R)) :
  Calls Tryz.prog 95 #[ptr gw,.int .u64 (n:Int),.int .i64 (k:Int)] w (Turns w0 (Wd gw R true (nb k n) k bad b)) :=
 (numW_any w0 gw bad s R b n k hn hk hb (by omega) w hw).mono λe w' ⟨v,M,h1,⟨r,h2,h3⟩,h4⟩=>⟨v,M,h1,⟨r,bad,_,Wrote.raw (nb k n) bad b (by rw [nb_len]; exact Nat.le_refl _),h2,h3⟩,h4⟩
theorem below_any (w:World) (n:Nat) (hn:n<Cu.K4):Calls Tryz.prog 203 #[fv n] w (Gets w (.bool (okSC n))):=by
 refine Sy.enter (args:=[fv n]) Tryz.func203 rfl kL ?_
 refine sC ?_
 refine sM 76 (fcs n) (λg1=>?_)
 refine sP (.bool false) ?_
 refine sH (λ_=>false) ?_
 refine sD 0 rfl (fv n) (qL 0 g1 0 4 76 76 (fcs n) rfl Tryz.underlying76)<|sD 1 rfl (fv (n%Sc.pM)) (qF 238 #[fv n] (λw=>Cu.nsc_any w n hn))<|sD 2 rfl (fv n) (qL 0 g1 0 4 76 76 (fcs n) rfl Tryz.underlying76)<|sv 3 rfl (.bool (okSC n)) (λw=>eqlSC w _ _ _ _ (n%Sc.pM) n rfl rfl rfl (Nat.lt_trans (Nat.mod_lt _ (by decide)) (by decide)) hn)<|sz 4 rfl rfl ?_
 refine sI ?_
 refine Sy.ret ?_
 exact rV (.bool (okSC n)) rfl
theorem none_any (w:World) (p:MPg) (A1 A2 A3:Option Addr) (n1 c1 n2 c2 n3 c3:Nat) (k1:p.tx.length=n1) (k2:p.path.length=n2) (k3:p.script.length=n3) (h0:p.header.length=32) :
  Calls Tryz.prog 158 #[.agg (cPG p (.slice A1 n1 c1) (.slice A2 n2 c2) (.slice A3 n3 c3)).toArray] w (Gets w (.bool (nulPG p))):=by
 obtain ⟨hd,tx,pl,mn,pa,sq⟩:=p
 dsimp only at k1 k2 k3 h0
 have m0:(hd.map bv).length=32:=by rw [List.length_map,h0]
 have hlen:(cPG ⟨hd,tx,pl,mn,pa,sq⟩ (.slice A1 n1 c1) (.slice A2 n2 c2) (.slice A3 n3 c3)).length=37:=by simp only [cPG,List.length_append,m0]; rfl
 have hnul:nulPG ⟨hd,tx,pl,mn,pa,sq⟩=(decide (hd=z32) && (decide (n1=0) && (decide (pl=0) && (decide (mn=0) && (decide (n2=0) && decide (n3=0)))))):=by unfold nulPG; dsimp only; rw [k1,k2,k3]
 refine Sy.enter (args:=[.agg (cPG ⟨hd,tx,pl,mn,pa,sq⟩ (.slice A1 n1 c1) (.slice A2 n2 c2) (.slice A3 n3 c3)).toArray]) Tryz.func158 rfl kL ?_
 refine sC ?_
 refine sM 81 (cPG ⟨hd,tx,pl,mn,pa,sq⟩ (.slice A1 n1 c1) (.slice A2 n2 c2) (.slice A3 n3 c3)).toArray (λg1=>?_) kR (λw=>run_boxR rfl rfl (by kernel_rfl) hlen w)
 refine sP (.bool false) ?_
 have X0:XAt (rdC (Base.of w) [(g1,81,(cPG ⟨hd,tx,pl,mn,pa,sq⟩ (.slice A1 n1 c1) (.slice A2 n2 c2) (.slice A3 n3 c3)).toArray)]) g1 0 (cPG ⟨hd,tx,pl,mn,pa,sq⟩ (.slice A1 n1 c1) (.slice A2 n2 c2) (.slice A3 n3 c3)):=λi u hu=>.inr ⟨_,_,List.mem_singleton.2 rfl,by rw [Nat.zero_add,List.getElem?_toArray]; exact hu⟩
 have X1:XAt (rdC (Base.of w) [(g1,81,(cPG ⟨hd,tx,pl,mn,pa,sq⟩ (.slice A1 n1 c1) (.slice A2 n2 c2) (.slice A3 n3 c3)).toArray)]) g1 32 ([.slice A1 n1 c1]++([.int .u32 (pl:Int)]++([.int .u32 (mn:Int)]++([.slice A2 n2 c2]++([.slice A3 n3 c3]))))):=X0.right m0
 have X2:XAt (rdC (Base.of w) [(g1,81,(cPG ⟨hd,tx,pl,mn,pa,sq⟩ (.slice A1 n1 c1) (.slice A2 n2 c2) (.slice A3 n3 c3)).toArray)]) g1 33 ([.int .u32 (pl:Int)]++([.int .u32 (mn:Int)]++([.slice A2 n2 c2]++([.slice A3 n3 c3])))):=X1.right (n:=1) rfl
 have X3:XAt (rdC (Base.of w) [(g1,81,(cPG ⟨hd,tx,pl,mn,pa,sq⟩ (.slice A1 n1 c1) (.slice A2 n2 c2) (.slice A3 n3 c3)).toArray)]) g1 34 ([.int .u32 (mn:Int)]++([.slice A2 n2 c2]++([.slice A3 n3 c3]))):=X2.right (n:=1) rfl
 have X4:XAt (rdC (Base.of w) [(g1,81,(cPG ⟨hd,tx,pl,mn,pa,sq⟩ (.slice A1 n1 c1) (.slice A2 n2 c2) (.slice A3 n3 c3)).toArray)]) g1 35 ([.slice A2 n2 c2]++([.slice A3 n3 c3])):=X3.right (n:=1) rfl
 have X5:XAt (rdC (Base.of w) [(g1,81,(cPG ⟨hd,tx,pl,mn,pa,sq⟩ (.slice A1 n1 c1) (.slice A2 n2 c2) (.slice A3 n3 c3)).toArray)]) g1 36 ([.slice A3 n3 c3]):=X4.right (n:=1) rfl
 refine sA ?_
 obtain ⟨b1,hb1⟩:∃ z:Bool,z=decide (hd=z32):=⟨_,rfl⟩
 refine sP (.pointer (some ⟨g1,0,none⟩))<|sS (.agg (hd.map bv).toArray) (rowC (R:=[(g1,81,(cPG ⟨hd,tx,pl,mn,pa,sq⟩ (.slice A1 n1 c1) (.slice A2 n2 c2) (.slice A3 n3 c3)).toArray)]) (g:=g1) (f:=0) (k:=32) (cs:=hd.map bv) X0.left (λy hy=>hy) m0 rfl Tryz.underlying28)<|sP (.agg (z32.map bv).toArray)<|sS (.bool b1) (Quiet.pure (λw=>by rw [hb1]; exact eql_dgs w _ _ _ _ hd z32 h0 rfl rfl rfl rfl))<|sp rfl ?_
 cases b1
 case' false =>
  refine sN<|sN<|sN<|sN<|sP (.bool false)<|sp rfl<|sN<|sN<|sN<|sP (.bool false)<|sp rfl<|sN<|sN<|sN<|sP (.bool false)<|sp rfl<|sN<|sN<|sN<|sN<|sP (.bool false)<|sp rfl<|sN<|sN<|sN<|sN<|sP (.bool false) ?_
  refine sp rfl ?_
  refine sG<|Sy.ret ?_
  rw [hnul, ← hb1]
  exact rV (.bool false) rfl
 obtain ⟨b2,hb2⟩:∃ z:Bool,z=decide (n1=0):=⟨_,rfl⟩
 refine sP (.pointer (some ⟨g1,32,none⟩))<|sS (.slice A1 n1 c1) (cellC (R:=[(g1,81,(cPG ⟨hd,tx,pl,mn,pa,sq⟩ (.slice A1 n1 c1) (.slice A2 n2 c2) (.slice A3 n3 c3)).toArray)]) (g:=g1) (f:=32) X1.one (λy hy=>hy) rfl Tryz.underlying29)<|sP (.int .i64 (n1:Int))<|sS (.bool b2) (Quiet.pure (exec_int .eql _ _ _ .i64 _ _ _ rfl rfl rfl (int_eql _ _ _ _ _ (by rw [hb2]; exact decide_eq_decide.2 (by omega)))))<|sP (.bool b2)<|sp rfl ?_
 cases b2
 case' false =>
  refine sN<|sN<|sN<|sP (.bool false)<|sp rfl<|sN<|sN<|sN<|sP (.bool false)<|sp rfl<|sN<|sN<|sN<|sN<|sP (.bool false)<|sp rfl<|sN<|sN<|sN<|sN<|sP (.bool false) ?_
  refine sp rfl ?_
  refine sG<|Sy.ret ?_
  rw [hnul, ← hb1, ← hb2]
  exact rV (.bool false) rfl
 obtain ⟨b3,hb3⟩:∃ z:Bool,z=decide (pl=0):=⟨_,rfl⟩
 refine sP (.pointer (some ⟨g1,33,none⟩))<|sS (.int .u32 (pl:Int)) (cellC (R:=[(g1,81,(cPG ⟨hd,tx,pl,mn,pa,sq⟩ (.slice A1 n1 c1) (.slice A2 n2 c2) (.slice A3 n3 c3)).toArray)]) (g:=g1) (f:=33) X2.one (λy hy=>hy) rfl Tryz.underlying67)<|sS (.bool b3) (Quiet.pure (exec_int .eql _ _ _ .u32 _ _ _ rfl rfl rfl (int_eql _ _ _ _ _ (by rw [hb3]; exact decide_eq_decide.2 (by omega)))))<|sP (.bool b3)<|sp rfl ?_
 cases b3
 case' false =>
  refine sN<|sN<|sN<|sP (.bool false)<|sp rfl<|sN<|sN<|sN<|sN<|sP (.bool false)<|sp rfl<|sN<|sN<|sN<|sN<|sP (.bool false) ?_
  refine sp rfl ?_
  refine sG<|Sy.ret ?_
  rw [hnul, ← hb1, ← hb2, ← hb3]
  exact rV (.bool false) rfl
 obtain ⟨b4,hb4⟩:∃ z:Bool,z=decide (mn=0):=⟨_,rfl⟩
 refine sP (.pointer (some ⟨g1,34,none⟩))<|sS (.int .u32 (mn:Int)) (cellC (R:=[(g1,81,(cPG ⟨hd,tx,pl,mn,pa,sq⟩ (.slice A1 n1 c1) (.slice A2 n2 c2) (.slice A3 n3 c3)).toArray)]) (g:=g1) (f:=34) X3.one (λy hy=>hy) rfl Tryz.underlying67)<|sS (.bool b4) (Quiet.pure (exec_int .eql _ _ _ .u32 _ _ _ rfl rfl rfl (int_eql _ _ _ _ _ (by rw [hb4]; exact decide_eq_decide.2 (by omega)))))<|sP (.bool b4)<|sp rfl ?_
 cases b4
 case' false =>
  refine sN<|sN<|sN<|sN<|sP (.bool false)<|sp rfl<|sN<|sN<|sN<|sN<|sP (.bool false) ?_
  refine sp rfl ?_
  refine sG<|Sy.ret ?_
  rw [hnul, ← hb1, ← hb2, ← hb3, ← hb4]
  exact rV (.bool false) rfl
 obtain ⟨b5,hb5⟩:∃ z:Bool,z=decide (n2=0):=⟨_,rfl⟩
 refine sP (.pointer (some ⟨g1,35,none⟩))<|sS (.slice A2 n2 c2) (cellC (R:=[(g1,81,(cPG ⟨hd,tx,pl,mn,pa,sq⟩ (.slice A1 n1 c1) (.slice A2 n2 c2) (.slice A3 n3 c3)).toArray)]) (g:=g1) (f:=35) X4.one (λy hy=>hy) rfl Tryz.underlying79)<|sP (.int .i64 (n2:Int))<|sS (.bool b5) (Quiet.pure (exec_int .eql _ _ _ .i64 _ _ _ rfl rfl rfl (int_eql _ _ _ _ _ (by rw [hb5]; exact decide_eq_decide.2 (by omega)))))<|sP (.bool b5)<|sp rfl ?_
 cases b5
 case' false =>
  refine sN<|sN<|sN<|sN<|sP (.bool false) ?_
  refine sp rfl ?_
  refine sG<|Sy.ret ?_
  rw [hnul, ← hb1, ← hb2, ← hb3, ← hb4, ← hb5]
  exact rV (.bool false) rfl
 obtain ⟨b6,hb6⟩:∃ z:Bool,z=decide (n3=0):=⟨_,rfl⟩
 refine sP (.pointer (some ⟨g1,36,none⟩))<|sS (.slice A3 n3 c3) (cellC (R:=[(g1,81,(cPG ⟨hd,tx,pl,mn,pa,sq⟩ (.slice A1 n1 c1) (.slice A2 n2 c2) (.slice A3 n3 c3)).toArray)]) (g:=g1) (f:=36) X5.one (λy hy=>hy) rfl Tryz.underlying29)<|sP (.int .i64 (n3:Int))<|sS (.bool b6) (Quiet.pure (exec_int .eql _ _ _ .i64 _ _ _ rfl rfl rfl (int_eql _ _ _ _ _ (by rw [hb6]; exact decide_eq_decide.2 (by omega)))))<|sP (.bool b6) ?_
 refine sp rfl ?_
 refine sG<|Sy.ret ?_
 rw [hnul, ← hb1, ← hb2, ← hb3, ← hb4, ← hb5, ← hb6]
 exact rV (.bool b6) rfl
theorem optW_any (w0:Base) (gw:Nat) (bad:Bool) (s:Slc) (R:Blocks) (b:Byt) (x:Byt×Nat) (cs:List Value) (hx:repOP (rdW w0.world) cs x) (hb:BS s b) (hl:b.length+36≤70368744160000) (w:World) (hw:St w0 w (WB gw bad s R)) :
  Calls Tryz.prog 155 #[ptr gw,.agg cs.toArray] w (Turns w0 (Wd gw R true (encOP x) 36 bad b)):=by
 obtain ⟨id,ix⟩:=x
 obtain ⟨rfl,h1,h2⟩:=hx
 dsimp only at h1 h2
 have e0:(id.map bv).length=32:=by rw [List.length_map,h1]
 have hlen:(id.map bv++[Value.int .u32 (ix:Int)]).length=33:=by rw [List.length_append,e0]; rfl
 refine Sy.enterT (args:=[ptr gw,.agg (id.map bv++[Value.int .u32 (ix:Int)]).toArray]) hw Tryz.func155 rfl kL ?_
 refine sC ?_
 refine sM 69 (id.map bv++[Value.int .u32 (ix:Int)]).toArray (λg3=>?_) kR (λw=>run_boxR rfl rfl (by kernel_rfl) hlen w)
 refine Sy.permS (M:=WB gw bad s (R++[(g3,69,(id.map bv++[Value.int .u32 (ix:Int)]).toArray)])) (List.Perm.of_eq (by simp only [List.append_assoc])) ?_
 have X0:XAt (rdC w0.inn [(g3,69,(id.map bv++[Value.int .u32 (ix:Int)]).toArray)]) g3 0 ((id.map bv++[Value.int .u32 (ix:Int)])):=λi u hu=>.inr ⟨_,_,List.mem_singleton.2 rfl,by rw [Nat.zero_add,List.getElem?_toArray]; exact hu⟩
 have X1:XAt (rdC w0.inn [(g3,69,(id.map bv++[Value.int .u32 (ix:Int)]).toArray)]) g3 32 [.int .u32 (ix:Int)]:=X0.right e0
 refine sA ?_
 refine sp rfl<|sP (.pointer (some ⟨g3,0,none⟩))<|sS (.agg (id.map bv).toArray) (rowC (R:=[(g3,69,(id.map bv++[Value.int .u32 (ix:Int)]).toArray)]) (g:=g3) (f:=0) (k:=32) (cs:=id.map bv) X0.left (λy hy=>inWB (List.mem_append_right R hy)) e0 rfl Tryz.underlying28) ?_
 refine Sy.callT (λw hw=>digWd w0.inn gw bad s (R++[(g3,69,(id.map bv++[Value.int .u32 (ix:Int)]).toArray)]) b id h1 hb (by omega) w hw) (λu M hM=>?_)
 obtain ⟨s1,bad1,b1,q1,p1,rfl⟩:=hM
 have l1:b1.length≤b.length+32:=q1.len
 refine Sy.nil<|Sy.then_<|Sy.region ?_
 refine sp rfl<|sP (.pointer (some ⟨g3,32,none⟩))<|sS (.int .u32 (ix:Int)) (cellC (R:=[(g3,69,(id.map bv++[Value.int .u32 (ix:Int)]).toArray)]) (g:=g3) (f:=32) X1.one (λy hy=>inWB (List.mem_append_right R hy)) rfl Tryz.underlying67)<|sS (.int .u64 (ix:Int)) (Quiet.pure (λw=>conv_48 w _ _ _ ix h2 rfl rfl)) ?_
 refine Sy.callT (λw hw=>numWd 4 (by decide) w0.inn gw bad1 s1 (R++[(g3,69,(id.map bv++[Value.int .u32 (ix:Int)]).toArray)]) b1 ix (by omega) p1 (by omega) w hw) (λu M hM=>?_)
 obtain ⟨s2,bad2,b2,q2,p2,rfl⟩:=hM
 have l2:b2.length≤b1.length+4:=q2.len
 refine Sy.nil ?_
 have q:=q1.then_ q2
 exact Sy.retT0 rfl (WB gw bad2 s2 R) (λ_ h=>dropW h) (λ_=>⟨s2,bad2,b2,q,p2,rfl⟩)
theorem issW_any (w0:Base) (gw:Nat) (bad:Bool) (s:Slc) (R:Blocks) (b:Byt) (x:MIs) (cs:List Value) (hx:repIS (rdW w0.world) cs x) (hb:BS s b) (hl:b.length+wtIS x≤70368744160000) (w:World) (hw:St w0 w (WB gw bad s R)) :
  Calls Tryz.prog 156 #[ptr gw,.agg cs.toArray] w (Turns w0 (Wd gw R (okIS x) (encIS x) (wtIS x) bad b)):=by
 obtain ⟨z,am,rg,tk,en,sc⟩:=x
 obtain ⟨vr,rfl,d1,h2,h3,h4,h5⟩:=hx
 dsimp only at d1 h2 h3 h4 h5
 unfold wtIS at hl
 dsimp only at hl
 have m4:(en.map bv).length=32:=by rw [List.length_map,h4]
 have hlen:(cIS ⟨z,am,rg,tk,en,sc⟩ vr).length=50:=by simp only [cIS,cAM,List.length_append,m4,fws_len,lPT_len]; rfl
 refine Sy.enterT (args:=[ptr gw,.agg (cIS ⟨z,am,rg,tk,en,sc⟩ vr).toArray]) hw Tryz.func156 rfl kL ?_
 refine sC ?_
 refine sM 78 (cIS ⟨z,am,rg,tk,en,sc⟩ vr).toArray (λg3=>?_) kR (λw=>run_boxR rfl rfl (by kernel_rfl) hlen w)
 refine Sy.permS (M:=WB gw bad s (R++[(g3,78,(cIS ⟨z,am,rg,tk,en,sc⟩ vr).toArray)])) (List.Perm.of_eq (by simp only [List.append_assoc])) ?_
 have X0:XAt (rdC w0.inn [(g3,78,(cIS ⟨z,am,rg,tk,en,sc⟩ vr).toArray)]) g3 0 ((cIS ⟨z,am,rg,tk,en,sc⟩ vr)):=λi u hu=>.inr ⟨_,_,List.mem_singleton.2 rfl,by rw [Nat.zero_add,List.getElem?_toArray]; exact hu⟩
 have X1:XAt (rdC w0.inn [(g3,78,(cIS ⟨z,am,rg,tk,en,sc⟩ vr).toArray)]) g3 1 (cAM am++([vr]++([.int .u64 (tk:Int)]++(en.map bv++(Cu.fws sc))))):=X0.right (n:=1) rfl
 have X2:XAt (rdC w0.inn [(g3,78,(cIS ⟨z,am,rg,tk,en,sc⟩ vr).toArray)]) g3 12 ([vr]++([.int .u64 (tk:Int)]++(en.map bv++(Cu.fws sc)))):=X1.right (n:=11) rfl
 have X3:XAt (rdC w0.inn [(g3,78,(cIS ⟨z,am,rg,tk,en,sc⟩ vr).toArray)]) g3 13 ([.int .u64 (tk:Int)]++(en.map bv++(Cu.fws sc))):=X2.right (n:=1) rfl
 have X4:XAt (rdC w0.inn [(g3,78,(cIS ⟨z,am,rg,tk,en,sc⟩ vr).toArray)]) g3 14 (en.map bv++(Cu.fws sc)):=X3.right (n:=1) rfl
 have X5:XAt (rdC w0.inn [(g3,78,(cIS ⟨z,am,rg,tk,en,sc⟩ vr).toArray)]) g3 46 (Cu.fws sc):=X4.right m4
 refine sA ?_
 refine sp rfl<|sP (.pointer (some ⟨g3,0,none⟩))<|sS (.int .i64 z) (cellC (R:=[(g3,78,(cIS ⟨z,am,rg,tk,en,sc⟩ vr).toArray)]) (g:=g3) (f:=0) X0.one (λy hy=>inWB (List.mem_append_right R hy)) rfl Tryz.underlying3) ?_
 refine Sy.callT (λw hw=>smallW_any w0.inn gw bad s (R++[(g3,78,(cIS ⟨z,am,rg,tk,en,sc⟩ vr).toArray)]) b 0 2 z hb (by omega) w hw) (λu M hM=>?_)
 obtain ⟨s1,bad1,b1,q1,p1,rfl⟩:=hM
 have l1:b1.length≤b.length+1:=q1.len
 refine sG<|Sy.seq<|sC ?_
 by_cases h0:z=0
 ·subst h0
  obtain ⟨A,n,cp,rfl,k2,k3,k4,k5⟩:=h2
  have hnul:nulIS ⟨0,am,rg,tk,en,sc⟩=(nulAM am && (decide (n=0) && (decide (tk=0) && (decide (en=z32) && decide (sc=0))))):=by unfold nulIS; dsimp only; rw [k2]
  refine sP (.pointer (some ⟨g3,0,none⟩))<|sS (.int .i64 0) (cellC (R:=[(g3,78,(cIS ⟨0,am,rg,tk,en,sc⟩ (.slice A n cp)).toArray)]) (g:=g3) (f:=0) X0.one (λy hy=>inWB (List.mem_append_right R hy)) rfl Tryz.underlying3)<|sP (.bool true) ?_
  refine sG<|sT<|sC ?_
  refine sp rfl ?_
  obtain ⟨b1,hb1⟩:∃ z:Bool,z=nulAM am:=⟨_,rfl⟩
  refine sP (.pointer (some ⟨g3,1,none⟩))<|sS (.agg (cAM am).toArray) (rowC (R:=[(g3,78,(cIS ⟨0,am,rg,tk,en,sc⟩ (.slice A n cp)).toArray)]) (g:=g3) (f:=1) (k:=11) (cs:=cAM am) X1.left (λy hy=>inWB (List.mem_append_right R hy)) rfl rfl Tryz.underlying75)<|sP (.agg (cAM zAM).toArray)<|sS (.bool b1) (Quiet.pure (λw=>by rw [hb1]; exact eql_am w _ _ _ _ am rfl rfl rfl d1.2.1 d1.2.2))<|sp rfl ?_
  cases b1
  case' false =>
   refine sN<|sN<|sN<|sN<|sP (.bool false)<|sp rfl<|sN<|sN<|sN<|sP (.bool false)<|sp rfl<|sN<|sN<|sN<|sN<|sP (.bool false)<|sp rfl<|sN<|sN<|sN<|sN<|sP (.bool false) ?_
   have hv:nulIS ⟨0,am,rg,tk,en,sc⟩=false:=by rw [hnul, ← hb1]; first | rfl | (simp only [Bool.true_and,Bool.false_and])
   refine Sy.callT (λw hw=>mustW_any w0.inn gw bad1 false s1 (R++[(g3,78,(cIS ⟨0,am,rg,tk,en,sc⟩ (.slice A n cp)).toArray)]) w hw) (λu M hM=>?_)
   subst hM
   refine sG<|Sy.ret<|Sy.then_ret ?_
   have q:=(q1.then_ (Wrote.must false bad1 b1)).le (k':=wtIS ⟨0,am,rg,tk,en,sc⟩) (by unfold wtIS; dsimp only; omega)
   have e:okIS ⟨0,am,rg,tk,en,sc⟩=(okS 0 2 0 && false):=by rw [← hv]; rfl
   exact Sy.retT0 rfl (WB gw (bad1 || !false) s1 R) (λ_ h=>dropW h) (λ_=>⟨s1,bad1 || !false,b1,by rw [e]; exact q,p1,rfl⟩)
  obtain ⟨b2,hb2⟩:∃ z:Bool,z=decide (n=0):=⟨_,rfl⟩
  refine sP (.pointer (some ⟨g3,12,none⟩))<|sS (.slice A n cp) (cellC (R:=[(g3,78,(cIS ⟨0,am,rg,tk,en,sc⟩ (.slice A n cp)).toArray)]) (g:=g3) (f:=12) X2.one (λy hy=>inWB (List.mem_append_right R hy)) rfl Tryz.underlying29)<|sP (.int .i64 (n:Int))<|sS (.bool b2) (Quiet.pure (exec_int .eql _ _ _ .i64 _ _ _ rfl rfl rfl (int_eql _ _ _ _ _ (by rw [hb2]; exact decide_eq_decide.2 (by omega)))))<|sP (.bool b2)<|sp rfl ?_
  cases b2
  case' false =>
   refine sN<|sN<|sN<|sP (.bool false)<|sp rfl<|sN<|sN<|sN<|sN<|sP (.bool false)<|sp rfl<|sN<|sN<|sN<|sN<|sP (.bool false) ?_
   have hv:nulIS ⟨0,am,rg,tk,en,sc⟩=false:=by rw [hnul, ← hb1, ← hb2]; first | rfl | (simp only [Bool.true_and,Bool.false_and])
   refine Sy.callT (λw hw=>mustW_any w0.inn gw bad1 false s1 (R++[(g3,78,(cIS ⟨0,am,rg,tk,en,sc⟩ (.slice A n cp)).toArray)]) w hw) (λu M hM=>?_)
   subst hM
   refine sG<|Sy.ret<|Sy.then_ret ?_
   have q:=(q1.then_ (Wrote.must false bad1 b1)).le (k':=wtIS ⟨0,am,rg,tk,en,sc⟩) (by unfold wtIS; dsimp only; omega)
   have e:okIS ⟨0,am,rg,tk,en,sc⟩=(okS 0 2 0 && false):=by rw [← hv]; rfl
   exact Sy.retT0 rfl (WB gw (bad1 || !false) s1 R) (λ_ h=>dropW h) (λ_=>⟨s1,bad1 || !false,b1,by rw [e]; exact q,p1,rfl⟩)
  obtain ⟨b3,hb3⟩:∃ z:Bool,z=decide (tk=0):=⟨_,rfl⟩
  refine sP (.pointer (some ⟨g3,13,none⟩))<|sS (.int .u64 (tk:Int)) (cellC (R:=[(g3,78,(cIS ⟨0,am,rg,tk,en,sc⟩ (.slice A n cp)).toArray)]) (g:=g3) (f:=13) X3.one (λy hy=>inWB (List.mem_append_right R hy)) rfl Tryz.underlying22)<|sS (.bool b3) (Quiet.pure (exec_int .eql _ _ _ .u64 _ _ _ rfl rfl rfl (int_eql _ _ _ _ _ (by rw [hb3]; exact decide_eq_decide.2 (by omega)))))<|sP (.bool b3)<|sp rfl ?_
  cases b3
  case' false =>
   refine sN<|sN<|sN<|sN<|sP (.bool false)<|sp rfl<|sN<|sN<|sN<|sN<|sP (.bool false) ?_
   have hv:nulIS ⟨0,am,rg,tk,en,sc⟩=false:=by rw [hnul, ← hb1, ← hb2, ← hb3]; first | rfl | (simp only [Bool.true_and,Bool.false_and])
   refine Sy.callT (λw hw=>mustW_any w0.inn gw bad1 false s1 (R++[(g3,78,(cIS ⟨0,am,rg,tk,en,sc⟩ (.slice A n cp)).toArray)]) w hw) (λu M hM=>?_)
   subst hM
   refine sG<|Sy.ret<|Sy.then_ret ?_
   have q:=(q1.then_ (Wrote.must false bad1 b1)).le (k':=wtIS ⟨0,am,rg,tk,en,sc⟩) (by unfold wtIS; dsimp only; omega)
   have e:okIS ⟨0,am,rg,tk,en,sc⟩=(okS 0 2 0 && false):=by rw [← hv]; rfl
   exact Sy.retT0 rfl (WB gw (bad1 || !false) s1 R) (λ_ h=>dropW h) (λ_=>⟨s1,bad1 || !false,b1,by rw [e]; exact q,p1,rfl⟩)
  obtain ⟨b4,hb4⟩:∃ z:Bool,z=decide (en=z32):=⟨_,rfl⟩
  refine sP (.pointer (some ⟨g3,14,none⟩))<|sS (.agg (en.map bv).toArray) (rowC (R:=[(g3,78,(cIS ⟨0,am,rg,tk,en,sc⟩ (.slice A n cp)).toArray)]) (g:=g3) (f:=14) (k:=32) (cs:=en.map bv) X4.left (λy hy=>inWB (List.mem_append_right R hy)) m4 rfl Tryz.underlying28)<|sP (.agg (z32.map bv).toArray)<|sS (.bool b4) (Quiet.pure (λw=>by rw [hb4]; exact eql_dgs w _ _ _ _ en z32 h4 rfl rfl rfl rfl))<|sP (.bool b4)<|sp rfl ?_
  cases b4
  case' false =>
   refine sN<|sN<|sN<|sN<|sP (.bool false) ?_
   have hv:nulIS ⟨0,am,rg,tk,en,sc⟩=false:=by rw [hnul, ← hb1, ← hb2, ← hb3, ← hb4]; first | rfl | (simp only [Bool.true_and,Bool.false_and])
   refine Sy.callT (λw hw=>mustW_any w0.inn gw bad1 false s1 (R++[(g3,78,(cIS ⟨0,am,rg,tk,en,sc⟩ (.slice A n cp)).toArray)]) w hw) (λu M hM=>?_)
   subst hM
   refine sG<|Sy.ret<|Sy.then_ret ?_
   have q:=(q1.then_ (Wrote.must false bad1 b1)).le (k':=wtIS ⟨0,am,rg,tk,en,sc⟩) (by unfold wtIS; dsimp only; omega)
   have e:okIS ⟨0,am,rg,tk,en,sc⟩=(okS 0 2 0 && false):=by rw [← hv]; rfl
   exact Sy.retT0 rfl (WB gw (bad1 || !false) s1 R) (λ_ h=>dropW h) (λ_=>⟨s1,bad1 || !false,b1,by rw [e]; exact q,p1,rfl⟩)
  obtain ⟨b5,hb5⟩:∃ z:Bool,z=decide (sc=0):=⟨_,rfl⟩
  refine sP (.pointer (some ⟨g3,46,none⟩))<|sS (fv sc) (rowC (R:=[(g3,78,(cIS ⟨0,am,rg,tk,en,sc⟩ (.slice A n cp)).toArray)]) (g:=g3) (f:=46) (k:=4) (cs:=Cu.fws sc) X5 (λy hy=>inWB (List.mem_append_right R hy)) rfl rfl Tryz.underlying76)<|sP (fv 0)<|sS (.bool b5) (Quiet.pure (λw=>by rw [hb5]; exact eqlSC w _ _ _ _ sc 0 rfl rfl rfl h5 (by decide)))<|sP (.bool b5) ?_
  have hv:nulIS ⟨0,am,rg,tk,en,sc⟩=b5:=by rw [hnul, ← hb1, ← hb2, ← hb3, ← hb4, ← hb5]; first | rfl | (simp only [Bool.true_and,Bool.false_and])
  refine Sy.callT (λw hw=>mustW_any w0.inn gw bad1 b5 s1 (R++[(g3,78,(cIS ⟨0,am,rg,tk,en,sc⟩ (.slice A n cp)).toArray)]) w hw) (λu M hM=>?_)
  subst hM
  refine sG<|Sy.ret<|Sy.then_ret ?_
  have q:=(q1.then_ (Wrote.must b5 bad1 b1)).le (k':=wtIS ⟨0,am,rg,tk,en,sc⟩) (by unfold wtIS; dsimp only; omega)
  have e:okIS ⟨0,am,rg,tk,en,sc⟩=(okS 0 2 0 && b5):=by rw [← hv]; rfl
  exact Sy.retT0 rfl (WB gw (bad1 || !b5) s1 R) (λ_ h=>dropW h) (λ_=>⟨s1,bad1 || !b5,b1,by rw [e]; exact q,p1,rfl⟩)
 refine sP (.pointer (some ⟨g3,0,none⟩))<|sS (.int .i64 z) (cellC (R:=[(g3,78,(cIS ⟨z,am,rg,tk,en,sc⟩ vr).toArray)]) (g:=g3) (f:=0) X0.one (λy hy=>inWB (List.mem_append_right R hy)) rfl Tryz.underlying3)<|sS (.bool false) (Quiet.pure (exec_int .eql _ _ _ .i64 _ _ _ rfl rfl rfl (int_eql _ _ _ _ _ (decide_eq_false h0)))) ?_
 refine sG<|sU<|Sy.skip<|Sy.then_<|sC ?_
 refine sp rfl<|sP (.pointer (some ⟨g3,1,none⟩))<|sS (.agg (cAM am).toArray) (rowC (R:=[(g3,78,(cIS ⟨z,am,rg,tk,en,sc⟩ vr).toArray)]) (g:=g3) (f:=1) (k:=11) (cs:=cAM am) X1.left (λy hy=>inWB (List.mem_append_right R hy)) rfl rfl Tryz.underlying75) ?_
 refine Sy.callT (λw hw=>amountW_any w0.inn gw bad1 s1 (R++[(g3,78,(cIS ⟨z,am,rg,tk,en,sc⟩ vr).toArray)]) b1 am d1.1 d1.2.1 d1.2.2 p1 (by omega) w hw) (λu M hM=>?_)
 obtain ⟨s2,bad2,b2,q2,p2,rfl⟩:=hM
 have l2:b2.length≤b1.length+34:=q2.len
 refine sA ?_
 refine sp rfl<|sP (.pointer (some ⟨g3,12,none⟩))<|sS vr (cellC (R:=[(g3,78,(cIS ⟨z,am,rg,tk,en,sc⟩ vr).toArray)]) (g:=g3) (f:=12) X2.one (λy hy=>inWB (List.mem_append_right R hy)) rfl Tryz.underlying29) ?_
 refine Sy.callT (λw hw=>textW_any w0.inn gw bad2 s2 (R++[(g3,78,(cIS ⟨z,am,rg,tk,en,sc⟩ vr).toArray)]) b2 vr rg 6000 (by decide) p2 h2 (by omega) w hw) (λu M hM=>?_)
 obtain ⟨s3,bad3,b3,q3,p3,rfl⟩:=hM
 have l3:b3.length≤b2.length+(9+rg.length):=q3.len
 refine sA ?_
 refine sp rfl<|sP (.pointer (some ⟨g3,13,none⟩))<|sS (.int .u64 (tk:Int)) (cellC (R:=[(g3,78,(cIS ⟨z,am,rg,tk,en,sc⟩ vr).toArray)]) (g:=g3) (f:=13) X3.one (λy hy=>inWB (List.mem_append_right R hy)) rfl Tryz.underlying22) ?_
 refine Sy.callT (λw hw=>numWd 8 (by decide) w0.inn gw bad3 s3 (R++[(g3,78,(cIS ⟨z,am,rg,tk,en,sc⟩ vr).toArray)]) b3 tk h3 p3 (by omega) w hw) (λu M hM=>?_)
 obtain ⟨s4,bad4,b4,q4,p4,rfl⟩:=hM
 have l4:b4.length≤b3.length+8:=q4.len
 refine sA ?_
 refine sp rfl<|sP (.pointer (some ⟨g3,14,none⟩))<|sS (.agg (en.map bv).toArray) (rowC (R:=[(g3,78,(cIS ⟨z,am,rg,tk,en,sc⟩ vr).toArray)]) (g:=g3) (f:=14) (k:=32) (cs:=en.map bv) X4.left (λy hy=>inWB (List.mem_append_right R hy)) m4 rfl Tryz.underlying28) ?_
 refine Sy.callT (λw hw=>digWd w0.inn gw bad4 s4 (R++[(g3,78,(cIS ⟨z,am,rg,tk,en,sc⟩ vr).toArray)]) b4 en h4 p4 (by omega) w hw) (λu M hM=>?_)
 obtain ⟨s5,bad5,b5,q5,p5,rfl⟩:=hM
 have l5:b5.length≤b4.length+32:=q5.len
 refine sA ?_
 obtain ⟨ok,hok⟩:∃ z,z=okSC sc:=⟨_,rfl⟩
 refine sp rfl<|sP (.pointer (some ⟨g3,46,none⟩))<|sS (fv sc) (rowC (R:=[(g3,78,(cIS ⟨z,am,rg,tk,en,sc⟩ vr).toArray)]) (g:=g3) (f:=46) (k:=4) (cs:=Cu.fws sc) X5 (λy hy=>inWB (List.mem_append_right R hy)) rfl rfl Tryz.underlying76)<|sS (.bool ok) (qg (λw _=>by rw [hok]; exact below_any w sc h5)) ?_
 refine Sy.callT (λw hw=>mustW_any w0.inn gw bad5 ok s5 (R++[(g3,78,(cIS ⟨z,am,rg,tk,en,sc⟩ vr).toArray)]) w hw) (λu M hM=>?_)
 subst hM
 refine Sy.nil<|Sy.then_<|Sy.region ?_
 refine sp rfl<|sP (.pointer (some ⟨g3,46,none⟩))<|sS (fv sc) (rowC (R:=[(g3,78,(cIS ⟨z,am,rg,tk,en,sc⟩ vr).toArray)]) (g:=g3) (f:=46) (k:=4) (cs:=Cu.fws sc) X5 (λy hy=>inWB (List.mem_append_right R hy)) rfl rfl Tryz.underlying76) ?_
 refine Sy.callN kR 204 #[fv sc] kF _ (λw' _=>Cu.bscN w' sc h5) (λu M hM=>?_)
 obtain ⟨g,sq,cap,rfl,⟨hc1,hc2⟩,rfl⟩:=hM
 have hB:BytR (rdC w0.inn ((R++[(g3,78,(cIS ⟨z,am,rg,tk,en,sc⟩ vr).toArray)])++[(g,5,((encSC sc).map bv++sq).toArray)])) (.slice (some ⟨g,0,none⟩) 32 cap) (encSC sc):=⟨_,_,_,rfl,bytesS_length _,hc1,by simp only [maxLen]; omega,λ_=>⟨g,0,rfl,λj y hj=>.inr ⟨5,_,List.mem_append_right _ (List.mem_singleton.2 rfl),by rw [Nat.zero_add,List.getElem?_toArray,List.getElem?_append_left (by rw [List.length_map]; exact (List.getElem?_eq_some_iff.1 hj).1),List.getElem?_map,hj]; rfl⟩⟩⟩
 refine Sy.permS (M:=WB gw (bad5 || !ok) s5 ((R++[(g3,78,(cIS ⟨z,am,rg,tk,en,sc⟩ vr).toArray)])++[(g,5,((encSC sc).map bv++sq).toArray)])) (List.Perm.of_eq (by simp only [List.append_assoc]; rfl)) ?_
 refine Sy.callT (λw hw=>wrawW_any w0.inn gw (bad5 || !ok) s5 ((R++[(g3,78,(cIS ⟨z,am,rg,tk,en,sc⟩ vr).toArray)])++[(g,5,((encSC sc).map bv++sq).toArray)]) b5 _ (encSC sc) p5 hB (by rw [show (encSC sc).length=32 from bytesS_length _]; omega) w hw) (λv M hM=>?_)
 obtain ⟨s6,p6,rfl⟩:=hM
 refine Sy.nil ?_
 have q6:=(Wrote.must ok bad5 b5).then_ (Wrote.raw (encSC sc) (bad5 || !ok) b5 (k:=32) (Nat.le_of_eq (bytesS_length _)))
 have q:=q1.then_ (q2.then_ (q3.then_ (q4.then_ (q5.then_ q6))))
 have fine:Wrote (okIS ⟨z,am,rg,tk,en,sc⟩) (encIS ⟨z,am,rg,tk,en,sc⟩) (wtIS ⟨z,am,rg,tk,en,sc⟩) bad b (bad5 || !ok) (b5++encSC sc):=by
  have e3:encIS ⟨z,am,rg,tk,en,sc⟩=[octB z]++bodyIS ⟨z,am,rg,tk,en,sc⟩:=by unfold encIS; rw [if_neg h0]
  rw [Bool.true_and,Bool.true_and,Bool.and_true,hok,List.nil_append,Nat.zero_add] at q
  by_cases hk:z=1∨z=2
  ·have e1:okS 0 2 z=true:=by rcases hk with rfl | rfl <;> rfl
   have e2:okIS ⟨z,am,rg,tk,en,sc⟩=fulIS ⟨z,am,rg,tk,en,sc⟩:=by unfold okIS; rw [if_neg h0,if_pos hk]
   rw [e1,Bool.true_and] at q
   rw [e2,e3,hok]
   exact q
  ·have e1:okS 0 2 z=false:=by
    cases hb:okS 0 2 z with
    | false=>rfl
    | true =>
     unfold okS at hb
     rw [Bool.and_eq_true,decide_eq_true_eq,decide_eq_true_eq] at hb
     exact (hk (by omega)).elim
   have e2:okIS ⟨z,am,rg,tk,en,sc⟩=false:=by unfold okIS; rw [if_neg h0,if_neg hk]
   rw [e1,Bool.false_and] at q
   rw [e2,e3,hok]
   exact q
 exact Sy.retT0 rfl (WB gw (bad5 || !ok) s6 R) (λ_ h=>dropW (by simpa only [List.append_assoc] using h)) (λ_=>⟨s6,bad5 || !ok,_,fine,p6,rfl⟩)
theorem pegW_any (w0:Base) (gw:Nat) (bad:Bool) (s:Slc) (R:Blocks) (b:Byt) (x:MPg) (cs:List Value) (hx:repPG (rdW w0.world) cs x) (hlo:x.path.length≤1000000000000) (hb:BS s b) (hl:b.length+wtPG x≤70368744160000) (w:World) (hw:St w0 w (WB gw bad s R)) :
  Calls Tryz.prog 157 #[ptr gw,.agg cs.toArray] w (Turns w0 (Wd gw R (okPG x) (encPG x) (wtPG x) bad b)):=by
 obtain ⟨hd,tx,pl,mn,pa,sq⟩:=x
 obtain ⟨vt,vp,vs,rfl,h1,h2,h3,h4,⟨A,n,cp,rfl,n1,n2,n3,n4⟩,h6⟩:=hx
 dsimp only at h1 h2 h3 h4 h6 n1 n4 hlo
 unfold wtPG at hl
 dsimp only at hl
 have m0:(hd.map bv).length=32:=by rw [List.length_map,h1]
 have hlen:(cPG ⟨hd,tx,pl,mn,pa,sq⟩ vt (.slice A n cp) vs).length=37:=by simp only [cPG,List.length_append,m0]; rfl
 refine Sy.enterT (args:=[ptr gw,.agg (cPG ⟨hd,tx,pl,mn,pa,sq⟩ vt (.slice A n cp) vs).toArray]) hw Tryz.func157 rfl kL ?_
 refine sC ?_
 refine sM 81 (cPG ⟨hd,tx,pl,mn,pa,sq⟩ vt (.slice A n cp) vs).toArray (λg3=>?_) kR (λw=>run_boxR rfl rfl (by kernel_rfl) hlen w)
 refine Sy.permS (M:=WB gw bad s (R++[(g3,81,(cPG ⟨hd,tx,pl,mn,pa,sq⟩ vt (.slice A n cp) vs).toArray)])) (List.Perm.of_eq (by simp only [List.append_assoc])) ?_
 have X0:XAt (rdC w0.inn [(g3,81,(cPG ⟨hd,tx,pl,mn,pa,sq⟩ vt (.slice A n cp) vs).toArray)]) g3 0 ((cPG ⟨hd,tx,pl,mn,pa,sq⟩ vt (.slice A n cp) vs)):=λi u hu=>.inr ⟨_,_,List.mem_singleton.2 rfl,by rw [Nat.zero_add,List.getElem?_toArray]; exact hu⟩
 have X1:XAt (rdC w0.inn [(g3,81,(cPG ⟨hd,tx,pl,mn,pa,sq⟩ vt (.slice A n cp) vs).toArray)]) g3 32 ([vt]++([.int .u32 (pl:Int)]++([.int .u32 (mn:Int)]++([.slice A n cp]++([vs]))))):=X0.right m0
 have X2:XAt (rdC w0.inn [(g3,81,(cPG ⟨hd,tx,pl,mn,pa,sq⟩ vt (.slice A n cp) vs).toArray)]) g3 33 ([.int .u32 (pl:Int)]++([.int .u32 (mn:Int)]++([.slice A n cp]++([vs])))):=X1.right (n:=1) rfl
 have X3:XAt (rdC w0.inn [(g3,81,(cPG ⟨hd,tx,pl,mn,pa,sq⟩ vt (.slice A n cp) vs).toArray)]) g3 34 ([.int .u32 (mn:Int)]++([.slice A n cp]++([vs]))):=X2.right (n:=1) rfl
 have X4:XAt (rdC w0.inn [(g3,81,(cPG ⟨hd,tx,pl,mn,pa,sq⟩ vt (.slice A n cp) vs).toArray)]) g3 35 ([.slice A n cp]++([vs])):=X3.right (n:=1) rfl
 have X5:XAt (rdC w0.inn [(g3,81,(cPG ⟨hd,tx,pl,mn,pa,sq⟩ vt (.slice A n cp) vs).toArray)]) g3 36 ([vs]):=X4.right (n:=1) rfl
 refine sA ?_
 refine sp rfl<|sP (.pointer (some ⟨g3,0,none⟩))<|sS (.agg (hd.map bv).toArray) (rowC (R:=[(g3,81,(cPG ⟨hd,tx,pl,mn,pa,sq⟩ vt (.slice A n cp) vs).toArray)]) (g:=g3) (f:=0) (k:=32) (cs:=hd.map bv) X0.left (λy hy=>inWB (List.mem_append_right R hy)) m0 rfl Tryz.underlying28) ?_
 refine Sy.callT (λw hw=>digWd w0.inn gw bad s (R++[(g3,81,(cPG ⟨hd,tx,pl,mn,pa,sq⟩ vt (.slice A n cp) vs).toArray)]) b hd h1 hb (by omega) w hw) (λu M hM=>?_)
 obtain ⟨s1,bad1,b1,q1,p1,rfl⟩:=hM
 have l1:b1.length≤b.length+32:=q1.len
 refine sA ?_
 refine sp rfl<|sP (.pointer (some ⟨g3,32,none⟩))<|sS vt (cellC (R:=[(g3,81,(cPG ⟨hd,tx,pl,mn,pa,sq⟩ vt (.slice A n cp) vs).toArray)]) (g:=g3) (f:=32) X1.one (λy hy=>inWB (List.mem_append_right R hy)) rfl Tryz.underlying29) ?_
 refine Sy.callT (λw hw=>textW_any w0.inn gw bad1 s1 (R++[(g3,81,(cPG ⟨hd,tx,pl,mn,pa,sq⟩ vt (.slice A n cp) vs).toArray)]) b1 vt tx 1024 (by decide) p1 h2 (by omega) w hw) (λu M hM=>?_)
 obtain ⟨s2,bad2,b2,q2,p2,rfl⟩:=hM
 have l2:b2.length≤b1.length+(9+tx.length):=q2.len
 refine sA ?_
 refine sp rfl<|sP (.pointer (some ⟨g3,33,none⟩))<|sS (.int .u32 (pl:Int)) (cellC (R:=[(g3,81,(cPG ⟨hd,tx,pl,mn,pa,sq⟩ vt (.slice A n cp) vs).toArray)]) (g:=g3) (f:=33) X2.one (λy hy=>inWB (List.mem_append_right R hy)) rfl Tryz.underlying67)<|sS (.int .u64 (pl:Int)) (Quiet.pure (λw=>conv_48 w _ _ _ pl h3 rfl rfl)) ?_
 refine Sy.callT (λw hw=>numWd 4 (by decide) w0.inn gw bad2 s2 (R++[(g3,81,(cPG ⟨hd,tx,pl,mn,pa,sq⟩ vt (.slice A n cp) vs).toArray)]) b2 pl (by omega) p2 (by omega) w hw) (λu M hM=>?_)
 obtain ⟨s3,bad3,b3,q3,p3,rfl⟩:=hM
 have l3:b3.length≤b2.length+4:=q3.len
 refine sA ?_
 refine sp rfl<|sP (.pointer (some ⟨g3,34,none⟩))<|sS (.int .u32 (mn:Int)) (cellC (R:=[(g3,81,(cPG ⟨hd,tx,pl,mn,pa,sq⟩ vt (.slice A n cp) vs).toArray)]) (g:=g3) (f:=34) X3.one (λy hy=>inWB (List.mem_append_right R hy)) rfl Tryz.underlying67)<|sS (.int .u64 (mn:Int)) (Quiet.pure (λw=>conv_48 w _ _ _ mn h4 rfl rfl)) ?_
 refine Sy.callT (λw hw=>numWd 4 (by decide) w0.inn gw bad3 s3 (R++[(g3,81,(cPG ⟨hd,tx,pl,mn,pa,sq⟩ vt (.slice A n cp) vs).toArray)]) b3 mn (by omega) p3 (by omega) w hw) (λu M hM=>?_)
 obtain ⟨s4,bad4,b4,q4,p4,rfl⟩:=hM
 have l4:b4.length≤b3.length+4:=q4.len
 refine sA ?_
 refine sp rfl<|sP (.pointer (some ⟨g3,35,none⟩))<|sS (.slice A n cp) (cellC (R:=[(g3,81,(cPG ⟨hd,tx,pl,mn,pa,sq⟩ vt (.slice A n cp) vs).toArray)]) (g:=g3) (f:=35) X4.one (λy hy=>inWB (List.mem_append_right R hy)) rfl Tryz.underlying79)<|sP (.int .i64 (n:Int)) ?_
 refine Sy.callT (λw hw=>manyW_any w0.inn gw bad4 s4 (R++[(g3,81,(cPG ⟨hd,tx,pl,mn,pa,sq⟩ vt (.slice A n cp) vs).toArray)]) b4 n 32 (by omega) (by decide) p4 (by omega) w hw) (λu M hM=>?_)
 obtain ⟨s5,bad5,b5,q5,p5,rfl⟩:=hM
 have l5:b5.length≤b4.length+9:=q5.len
 refine sG<|Sy.seq<|sC ?_
 refine sP (.int .i64 0) ?_
 refine sG<|Sy.block ?_
 have hsum6:∀ i,((pa.take i).map (λ_=>32)).sum≤(pa.map (λ_=>32)).sum:=λi=>by
  have e:=congrArg (λz=>(z.map (λ_=>32)).sum) (List.take_append_drop i pa)
  simp only [List.map_append,List.sum_append] at e
  omega
 refine Sy.loopT (Y:=Slc×Bool×Byt) n (λi _=>[(0,ptr gw),(3,ptr g3),(4,.int .i64 (i:Int))]) (λ_ y=>WB gw y.2.1 y.1 (R++[(g3,81,(cPG ⟨hd,tx,pl,mn,pa,sq⟩ vt (.slice A n cp) vs).toArray)])) (λi y=>Wrote ((pa.take i).all (λ_=>true)) ((pa.take i).flatMap (λd=>d)) (((pa.take i).map (λ_=>32)).sum) bad5 b5 y.2.1 y.2.2∧BS y.1 y.2.2) (s5,bad5,b5) ⟨by
  have e:=Wrote.raw [] bad5 b5 (k:=0) (Nat.le_refl 0)
  rw [List.append_nil] at e
  exact e,p5⟩ (all_cons kR (all_cons kR (all_cons kR all_nil))) (λ_ h=>h) (λi y hi hy=>?_)
 obtain ⟨s6,bad6,b6⟩:=y
 obtain ⟨q6,p6⟩:=hy
 dsimp only at q6 p6 ⊢
 refine Sy.seq<|sC ?_
 obtain ⟨t9,ht9⟩:∃ z:Bool,z=decide (i<n):=⟨_,rfl⟩
 refine sp rfl<|sP (.pointer (some ⟨g3,35,none⟩))<|sS (.slice A n cp) (cellC (R:=[(g3,81,(cPG ⟨hd,tx,pl,mn,pa,sq⟩ vt (.slice A n cp) vs).toArray)]) (g:=g3) (f:=35) X4.one (λy hy=>inWB (List.mem_append_right R hy)) rfl Tryz.underlying79)<|sP (.int .i64 (n:Int))<|sS (.bool t9) (Quiet.pure (exec_int .lss _ _ _ .i64 _ _ _ rfl rfl rfl (int_lss _ _ _ _ _ (by rw [ht9]; exact decide_eq_decide.2 (by omega))))) ?_
 refine sG ?_
 cases t9
 case' false =>
  have z3:¬ i<n:=of_decide_eq_false ht9.symm
  obtain rfl:n=i:=by omega
  rw [List.take_of_length_le (by omega)] at q6
  have l6:b6.length≤b5.length+(pa.map (λ_=>32)).sum:=q6.len
  refine sU<|Sy.exit<|Sy.then_exit<|Sy.then_exit<|Sy.in_exit<|Sy.then_<|Sy.region ?_
  refine sp rfl<|sP (.pointer (some ⟨g3,36,none⟩))<|sS vs (cellC (R:=[(g3,81,(cPG ⟨hd,tx,pl,mn,pa,sq⟩ vt (.slice A n cp) vs).toArray)]) (g:=g3) (f:=36) X5.one (λy hy=>inWB (List.mem_append_right R hy)) rfl Tryz.underlying29) ?_
  refine Sy.callT (λw hw=>textW_any w0.inn gw bad6 s6 (R++[(g3,81,(cPG ⟨hd,tx,pl,mn,pa,sq⟩ vt (.slice A n cp) vs).toArray)]) b6 vs sq 256 (by decide) p6 h6 (by omega) w hw) (λu M hM=>?_)
  obtain ⟨s7,bad7,b7,q7,p7,rfl⟩:=hM
  have l7:b7.length≤b6.length+(9+sq.length):=q7.len
  refine Sy.nil ?_
  have q:=q1.then_ (q2.then_ (q3.then_ (q4.then_ ((q5.then_ q6).then_ q7))))
  simp only [Bool.true_and,Bool.and_true,all_true] at q
  rw [← n1] at q
  exact Sy.retT0 rfl (WB gw bad7 s7 R) (λ_ h=>dropW h) (λ_=>⟨s7,bad7,b7,q,p7,rfl⟩)
 have z3:i<n:=of_decide_eq_true ht9.symm
 obtain ⟨x,hx⟩:∃ x,pa[i]? = some x:=⟨_,List.getElem?_eq_getElem (by omega)⟩
 obtain ⟨g,o,hA,hq⟩:=n4 (by intro e; rw [e] at hx; cases hx)
 obtain ⟨cx,y1,y2,y3,y4⟩:=hq i x hx
 obtain ⟨rfl,_⟩:=id y3
 have d1:XAt (rdC w0.inn []) g (o+i*32) _:=λj u hu=>.inl (y4 j u hu)
 have htk:pa.take (i+1)=pa.take i++[x]:=by rw [List.take_add_one,hx]; rfl
 have hsi:=hsum6 (i+1)
 rw [htk] at hsi
 simp only [List.map_append,List.sum_append,List.map_cons,List.map_nil,List.sum_cons,List.sum_nil] at hsi
 have hyl:=q6.len
 refine sT<|Sy.skip<|Sy.then_<|Sy.seq<|Sy.block<|Sy.region ?_
 refine sp rfl<|sP (.pointer (some ⟨g3,35,none⟩))<|sS (.slice A n cp) (cellC (R:=[(g3,81,(cPG ⟨hd,tx,pl,mn,pa,sq⟩ vt (.slice A n cp) vs).toArray)]) (g:=g3) (f:=35) X4.one (λy hy=>inWB (List.mem_append_right R hy)) rfl Tryz.underlying79)<|sp rfl<|sS (.pointer (some ⟨g,o+i*32,none⟩)) (Quiet.pure (exec_atO 79 _ _ _ A g o n cp i 32 .i64 hA rfl rfl rfl Tryz.underlying79 kF z3))<|sS (.agg (x.map bv).toArray) (rowC (R:=[]) d1 (λy hy=>by cases hy) y1 rfl Tryz.underlying28) ?_
 refine Sy.callT (λw hw=>digWd w0.inn gw bad6 s6 (R++[(g3,81,(cPG ⟨hd,tx,pl,mn,pa,sq⟩ vt (.slice A n cp) vs).toArray)]) b6 x y3.2 p6 (by omega) w hw) (λv M hM=>?_)
 obtain ⟨s9,bad9,b9,q9,p9,rfl⟩:=hM
 refine Sy.nil<|Sy.in_<|Sy.then_<|Sy.region ?_
 refine sp rfl<|sS (.int .i64 ((i+1:Nat):Int)) (Quiet.pure (exec_int .add _ _ _ .i64 _ _ _ rfl rfl rfl (int_add _ _ _ _ _ ((wrap_i64 (by omega) (by omega)).trans (by omega)))))<|sp rfl ?_
 refine Sy.nil ?_
 have hW:=q6.then_ q9
 have hW':Wrote ((pa.take (i+1)).all (λ_=>true)) ((pa.take (i+1)).flatMap (λd=>d)) (((pa.take (i+1)).map (λ_=>32)).sum) bad5 b5 bad9 b9:=by
  rw [htk]
  simp only [List.all_append,List.flatMap_append,List.map_append,List.sum_append,List.all_cons,List.all_nil,List.flatMap_cons,List.flatMap_nil,List.map_cons,List.map_nil,List.sum_cons,List.sum_nil,Bool.and_true,List.append_nil,Nat.add_zero]
  first | exact hW | simpa only [Bool.and_true] using hW
 exact Sy.againT (s9,bad9,b9) z3 ⟨hW',p9⟩ (all_cons kR (all_cons kR (all_cons kR all_nil))) (λw h=>h)
end Wr
end
section
namespace Wr
open Go.RowKit Sy
set_option maxRecDepth 100000
set_option maxHeartbeats 4000000
theorem joinX {P:Program} {w0:Base} {n:Nat} {Q:Exit→Act→World→Prop} {F:Slots} {L:Blocks} {c:Code} {T:Type} (FF:T→Slots) (LL:T→Blocks) (H:T→Prop) (h:∀ x,H x→X w0 n Q (FF x) (LL x) .normal) (k:(∀ x,H x→X w0 n Q (FF x) (LL x) .normal)→wpC P w0 n Q F L c):wpC P w0 n Q F L c:=k h
theorem leafX {w0:Base} {n:Nat} {Q:Exit→Act→World→Prop} {F:Slots} {L:Blocks} {T:Type} {FF:T→Slots} {LL:T→Blocks} {H:T→Prop} (h:∀ x,H x→X w0 n Q (FF x) (LL x) .normal) (x:T) (hx:H x) (hF:∀ p∈FF x,F.lookup p.1=some p.2) (hL:∀ w,St w0 w L→St w0 w (LL x)):X w0 n Q F L .normal:=λa w ha hw=>h x hx a w (ha.all hF) (hL w hw)
theorem sum_ge {α:Type} {wt:α→Nat} (h:∀ x,1≤wt x) (l:List α):l.length≤(l.map wt).sum:=by
 induction l with
 | nil=>exact Nat.le_refl 0
 | cons x l ih=>have q:=h x; rw [List.length_cons,List.map_cons,List.sum_cons]; omega
def cIN (z:Int) (pt:Byt) (ix:Nat) (ci cg:List Value) (vw:Value):List Value:=[.int .i64 z]++((pt.map bv++[.int .u32 (ix:Int)])++(ci++(cg++[vw])))
def cTX (af:Nat) (vi vo:Value):List Value:=[.int .u64 (af:Int)]++([vi]++[vo])
theorem path_le (p:MPg) {n:Nat} (h:wtPG p≤n):p.path.length≤n:=by
 have q:=sum_ge (wt:=λ_:Byt=>32) (λ_=>by decide) p.path
 unfold wtPG at h
 omega
theorem inW_any (w0:Base) (gw:Nat) (bad:Bool) (s:Slc) (R:Blocks) (b:Byt) (x:MIn) (cs:List Value) (hx:repIN (rdW w0.world) cs x) (hb:BS s b) (hl:b.length+wtIN x≤1000000000000) (w:World) (hw:St w0 w (WB gw bad s R)) :
  Calls Tryz.prog 97 #[ptr gw,.agg cs.toArray] w (Turns w0 (Wd gw R (okIN x) (encIN x) (wtIN x) bad b)):=by
 obtain ⟨z,pt,ix,iss,pg,wi⟩:=x
 obtain ⟨ci,cg,vw,hcs,h1,h2,h3,h4,⟨A,n,cp,rfl,n1,n2,n3,n4⟩⟩:=hx
 obtain rfl:cs=cIN z pt ix ci cg (.slice A n cp):=hcs
 dsimp only at h1 h2 h3 h4 n1 n4
 unfold wtIN at hl
 dsimp only at hl
 have m1:(pt.map bv++[Value.int .u32 (ix:Int)]).length=33:=by rw [List.length_append,List.length_map,h1]; rfl
 have m3:=lenIS h3
 have m4:=lenPG h4
 have hlo:=path_le pg (n:=1000000000000) (by omega)
 have hwi:=sum_ge (wt:=wtT) (λx=>by unfold wtT; omega) wi
 have hlen:(cIN z pt ix ci cg (.slice A n cp)).length=122:=by simp only [cIN,List.length_append,List.length_map,h1,m3,m4]; rfl
 refine Sy.enterT (args:=[ptr gw,.agg (cIN z pt ix ci cg (.slice A n cp)).toArray]) hw Tryz.func97 rfl kL ?_
 refine sC ?_
 refine sM 83 (cIN z pt ix ci cg (.slice A n cp)).toArray (λg3=>?_) kR (λw=>run_boxR rfl rfl (by kernel_rfl) hlen w)
 refine Sy.permS (M:=WB gw bad s (R++[(g3,83,(cIN z pt ix ci cg (.slice A n cp)).toArray)])) (List.Perm.of_eq (by simp only [List.append_assoc])) ?_
 have X0:XAt (rdC w0.inn [(g3,83,(cIN z pt ix ci cg (.slice A n cp)).toArray)]) g3 0 ((cIN z pt ix ci cg (.slice A n cp))):=λi u hu=>.inr ⟨_,_,List.mem_singleton.2 rfl,by rw [Nat.zero_add,List.getElem?_toArray]; exact hu⟩
 have X1:XAt (rdC w0.inn [(g3,83,(cIN z pt ix ci cg (.slice A n cp)).toArray)]) g3 1 ((pt.map bv++[.int .u32 (ix:Int)])++(ci++(cg++([.slice A n cp])))):=X0.right (n:=1) rfl
 have X2:XAt (rdC w0.inn [(g3,83,(cIN z pt ix ci cg (.slice A n cp)).toArray)]) g3 34 (ci++(cg++([.slice A n cp]))):=X1.right m1
 have X3:XAt (rdC w0.inn [(g3,83,(cIN z pt ix ci cg (.slice A n cp)).toArray)]) g3 84 (cg++([.slice A n cp])):=X2.right m3
 have X4:XAt (rdC w0.inn [(g3,83,(cIN z pt ix ci cg (.slice A n cp)).toArray)]) g3 121 ([.slice A n cp]):=X3.right m4
 refine sA ?_
 refine sp rfl<|sP (.pointer (some ⟨g3,0,none⟩))<|sS (.int .i64 z) (cellC (R:=[(g3,83,(cIN z pt ix ci cg (.slice A n cp)).toArray)]) (g:=g3) (f:=0) X0.one (λy hy=>inWB (List.mem_append_right R hy)) rfl Tryz.underlying3) ?_
 refine Sy.callT (λw hw=>smallW_any w0.inn gw bad s (R++[(g3,83,(cIN z pt ix ci cg (.slice A n cp)).toArray)]) b 1 2 z hb (by omega) w hw) (λu M hM=>?_)
 obtain ⟨s1,bad1,b1,q1,p1,rfl⟩:=hM
 have l1:b1.length≤b.length+1:=q1.len
 refine sA ?_
 refine sp rfl<|sP (.pointer (some ⟨g3,1,none⟩))<|sS (.agg (pt.map bv++[Value.int .u32 (ix:Int)]).toArray) (rowC (R:=[(g3,83,(cIN z pt ix ci cg (.slice A n cp)).toArray)]) (g:=g3) (f:=1) (k:=33) (cs:=pt.map bv++[Value.int .u32 (ix:Int)]) X1.left (λy hy=>inWB (List.mem_append_right R hy)) m1 rfl Tryz.underlying69) ?_
 refine Sy.callT (λw hw=>optW_any w0.inn gw bad1 s1 (R++[(g3,83,(cIN z pt ix ci cg (.slice A n cp)).toArray)]) b1 (pt,ix) _ ⟨rfl,h1,h2⟩ p1 (by omega) w hw) (λu M hM=>?_)
 obtain ⟨s2,bad2,b2,q2,p2,rfl⟩:=hM
 have l2:b2.length≤b1.length+36:=q2.len
 refine sA ?_
 refine sp rfl<|sP (.pointer (some ⟨g3,34,none⟩))<|sS (.agg ci.toArray) (rowC (R:=[(g3,83,(cIN z pt ix ci cg (.slice A n cp)).toArray)]) (g:=g3) (f:=34) (k:=50) (cs:=ci) X2.left (λy hy=>inWB (List.mem_append_right R hy)) m3 rfl Tryz.underlying78) ?_
 refine Sy.callT (λw hw=>issW_any w0.inn gw bad2 s2 (R++[(g3,83,(cIN z pt ix ci cg (.slice A n cp)).toArray)]) b2 iss ci h3 p2 (by omega) w hw) (λu M hM=>?_)
 obtain ⟨s3,bad3,b3,q3,p3,rfl⟩:=hM
 have l3:b3.length≤b2.length+wtIS iss:=q3.len
 refine sG<|Sy.seq ?_
 refine joinX (T:=Slc×Bool×Byt) (λ_=>[(0,ptr gw),(3,ptr g3)]) (λy=>WB gw y.2.1 y.1 (R++[(g3,83,(cIN z pt ix ci cg (.slice A n cp)).toArray)])) (λy=>Wrote (if z=2 then okPG pg else nulPG pg) (if z=2 then encPG pg else []) (wtPG pg) bad3 b3 y.2.1 y.2.2∧BS y.1 y.2.2) (λy hy=>?_) (λK=>?_)
 case refine_2 =>
  refine sC ?_
  by_cases hk:z=2
  ·subst hk
   refine sP (.pointer (some ⟨g3,0,none⟩))<|sS (.int .i64 2) (cellC (R:=[(g3,83,(cIN 2 pt ix ci cg (.slice A n cp)).toArray)]) (g:=g3) (f:=0) X0.one (λy hy=>inWB (List.mem_append_right R hy)) rfl Tryz.underlying3)<|sP (.bool true) ?_
   refine sG<|sT<|Sy.region ?_
   refine sp rfl<|sP (.pointer (some ⟨g3,84,none⟩))<|sS (.agg cg.toArray) (rowC (R:=[(g3,83,(cIN 2 pt ix ci cg (.slice A n cp)).toArray)]) (g:=g3) (f:=84) (k:=37) (cs:=cg) X3.left (λy hy=>inWB (List.mem_append_right R hy)) m4 rfl Tryz.underlying81) ?_
   refine Sy.callT (λw hw=>pegW_any w0.inn gw bad3 s3 (R++[(g3,83,(cIN 2 pt ix ci cg (.slice A n cp)).toArray)]) b3 pg cg h4 hlo p3 (by omega) w hw) (λu M hM=>?_)
   obtain ⟨s4,bad4,b4,q4,p4,rfl⟩:=hM
   have l4:b4.length≤b3.length+wtPG pg:=q4.len
   refine Sy.nil ?_
   exact leafX K (s4,bad4,b4) ⟨q4,p4⟩ (all_cons kR (all_cons kR all_nil)) (λ_ h=>h)
  obtain ⟨vt,vp,vs,rfl,e1,⟨A1,n1_,c1,rfl,g1_,_⟩,e3,e4,⟨A2,n2_,c2,rfl,g2_,_⟩,⟨A3,n3_,c3,rfl,g3_,_⟩⟩:=h4
  obtain ⟨ok,hok⟩:∃ ok,ok=nulPG pg:=⟨_,rfl⟩
  refine sP (.pointer (some ⟨g3,0,none⟩))<|sS (.int .i64 z) (cellC (R:=[(g3,83,(cIN z pt ix ci (cPG pg (.slice A1 n1_ c1) (.slice A2 n2_ c2) (.slice A3 n3_ c3)) (.slice A n cp)).toArray)]) (g:=g3) (f:=0) X0.one (λy hy=>inWB (List.mem_append_right R hy)) rfl Tryz.underlying3)<|sS (.bool false) (Quiet.pure (exec_int .eql _ _ _ .i64 _ _ _ rfl rfl rfl (int_eql _ _ _ _ _ (decide_eq_false hk)))) ?_
  refine sG<|sU<|Sy.region ?_
  refine sp rfl<|sP (.pointer (some ⟨g3,84,none⟩))<|sS (.agg (cPG pg (.slice A1 n1_ c1) (.slice A2 n2_ c2) (.slice A3 n3_ c3)).toArray) (rowC (R:=[(g3,83,(cIN z pt ix ci (cPG pg (.slice A1 n1_ c1) (.slice A2 n2_ c2) (.slice A3 n3_ c3)) (.slice A n cp)).toArray)]) (g:=g3) (f:=84) (k:=37) (cs:=cPG pg (.slice A1 n1_ c1) (.slice A2 n2_ c2) (.slice A3 n3_ c3)) X3.left (λy hy=>inWB (List.mem_append_right R hy)) m4 rfl Tryz.underlying81)<|sS (.bool ok) (qg (λw _=>by rw [hok]; exact none_any w pg A1 A2 A3 n1_ c1 n2_ c2 n3_ c3 g1_ g2_ g3_ e1)) ?_
  refine Sy.callT (λw hw=>mustW_any w0.inn gw bad3 ok s3 (R++[(g3,83,(cIN z pt ix ci (cPG pg (.slice A1 n1_ c1) (.slice A2 n2_ c2) (.slice A3 n3_ c3)) (.slice A n cp)).toArray)]) w hw) (λu M hM=>?_)
  subst hM
  refine Sy.nil ?_
  exact leafX K (s3,bad3 || !ok,b3) ⟨by rw [if_neg hk,if_neg hk,hok]; exact (Wrote.must _ bad3 b3).le (Nat.zero_le _),p3⟩ (all_cons kR (all_cons kR all_nil)) (λ_ h=>h)
 obtain ⟨s4,bad4,b4⟩:=y
 obtain ⟨q4,p4⟩:=hy
 dsimp only at q4 p4 ⊢
 have l4:b4.length≤b3.length+wtPG pg:=q4.len
 refine Sy.then_<|sC ?_
 refine sp rfl<|sP (.pointer (some ⟨g3,121,none⟩))<|sS (.slice A n cp) (cellC (R:=[(g3,83,(cIN z pt ix ci cg (.slice A n cp)).toArray)]) (g:=g3) (f:=121) X4.one (λy hy=>inWB (List.mem_append_right R hy)) rfl Tryz.underlying66)<|sP (.int .i64 (n:Int)) ?_
 refine Sy.callT (λw hw=>manyW_any w0.inn gw bad4 s4 (R++[(g3,83,(cIN z pt ix ci cg (.slice A n cp)).toArray)]) b4 n 16 (by omega) (by decide) p4 (by omega) w hw) (λu M hM=>?_)
 obtain ⟨s5,bad5,b5,q5,p5,rfl⟩:=hM
 have l5:b5.length≤b4.length+9:=q5.len
 refine sA ?_
 refine sP (.int .i64 0) ?_
 refine sG<|Sy.block ?_
 have hsum6:∀ i,((wi.take i).map wtT).sum≤(wi.map wtT).sum:=λi=>by
  have e:=congrArg (λz=>(z.map wtT).sum) (List.take_append_drop i wi)
  simp only [List.map_append,List.sum_append] at e
  omega
 refine Sy.loopT (Y:=Slc×Bool×Byt) n (λi _=>[(0,ptr gw),(3,ptr g3),(4,.int .i64 (i:Int))]) (λ_ y=>WB gw y.2.1 y.1 (R++[(g3,83,(cIN z pt ix ci cg (.slice A n cp)).toArray)])) (λi y=>Wrote ((wi.take i).all ok256) ((wi.take i).flatMap encT) (((wi.take i).map wtT).sum) bad5 b5 y.2.1 y.2.2∧BS y.1 y.2.2) (s5,bad5,b5) ⟨by
  have e:=Wrote.raw [] bad5 b5 (k:=0) (Nat.le_refl 0)
  rw [List.append_nil] at e
  exact e,p5⟩ (all_cons kR (all_cons kR (all_cons kR all_nil))) (λ_ h=>h) (λi y hi hy=>?_)
 obtain ⟨s6,bad6,b6⟩:=y
 obtain ⟨q6,p6⟩:=hy
 dsimp only at q6 p6 ⊢
 refine Sy.seq<|sC ?_
 obtain ⟨t9,ht9⟩:∃ z:Bool,z=decide (i<n):=⟨_,rfl⟩
 refine sp rfl<|sP (.pointer (some ⟨g3,121,none⟩))<|sS (.slice A n cp) (cellC (R:=[(g3,83,(cIN z pt ix ci cg (.slice A n cp)).toArray)]) (g:=g3) (f:=121) X4.one (λy hy=>inWB (List.mem_append_right R hy)) rfl Tryz.underlying66)<|sP (.int .i64 (n:Int))<|sS (.bool t9) (Quiet.pure (exec_int .lss _ _ _ .i64 _ _ _ rfl rfl rfl (int_lss _ _ _ _ _ (by rw [ht9]; exact decide_eq_decide.2 (by omega))))) ?_
 refine sG ?_
 cases t9
 case' false =>
  have z3:¬ i<n:=of_decide_eq_false ht9.symm
  obtain rfl:n=i:=by omega
  rw [List.take_of_length_le (by omega)] at q6
  have l6:b6.length≤b5.length+(wi.map wtT).sum:=q6.len
  refine sU<|Sy.exit<|Sy.then_exit<|Sy.then_exit<|Sy.in_exit ?_
  have q:=q1.then_ (q2.then_ (q3.then_ (q4.then_ (q5.then_ q6))))
  have e:okIN ⟨z,pt,ix,iss,pg,wi⟩=(okS 1 2 z && (okIS iss && ((if z=2 then okPG pg else nulPG pg) && (decide (n≤16) && wi.all ok256)))):=by rw [← n1]; rfl
  have e2:encIN ⟨z,pt,ix,iss,pg,wi⟩=[octB z]++(pt++(nb 4 ix++(encIS iss++((if z=2 then encPG pg else [])++(varB n++wi.flatMap encT))))):=by rw [← n1]; rfl
  rw [Bool.true_and] at q
  unfold encOP at q
  simp only [List.append_assoc] at q
  exact Sy.retT0 rfl (WB gw bad6 s6 R) (λ_ h=>dropW h) (λ_=>⟨s6,bad6,b6,by rw [e,e2]; exact q,p6,rfl⟩)
 have z3:i<n:=of_decide_eq_true ht9.symm
 obtain ⟨x,hx⟩:∃ x,wi[i]? = some x:=⟨_,List.getElem?_eq_getElem (by omega)⟩
 obtain ⟨g,o,hA,hq⟩:=n4 (by intro e; rw [e] at hx; cases hx)
 obtain ⟨cx,y1,y2,y3,y4⟩:=hq i x hx
 obtain ⟨vx,rfl,hvx⟩:=y3
 have d1:XAt (rdC w0.inn []) g (o+i*1) _:=λj u hu=>.inl (y4 j u hu)
 have htk:wi.take (i+1)=wi.take i++[x]:=by rw [List.take_add_one,hx]; rfl
 have hsi:=hsum6 (i+1)
 rw [htk] at hsi
 simp only [List.map_append,List.sum_append,List.map_cons,List.map_nil,List.sum_cons,List.sum_nil] at hsi
 have hyl:=q6.len
 refine sT<|Sy.skip<|Sy.then_<|Sy.seq<|Sy.block<|Sy.region ?_
 refine sp rfl<|sP (.pointer (some ⟨g3,121,none⟩))<|sS (.slice A n cp) (cellC (R:=[(g3,83,(cIN z pt ix ci cg (.slice A n cp)).toArray)]) (g:=g3) (f:=121) X4.one (λy hy=>inWB (List.mem_append_right R hy)) rfl Tryz.underlying66)<|sp rfl<|sS (.pointer (some ⟨g,o+i*1,none⟩)) (Quiet.pure (exec_atO 66 _ _ _ A g o n cp i 1 .i64 hA rfl rfl rfl Tryz.underlying66 kF z3))<|sS vx (cellC (R:=[]) d1.one (λy hy=>by cases hy) rfl Tryz.underlying29) ?_
 refine Sy.callT (λw hw=>textW_any w0.inn gw bad6 s6 (R++[(g3,83,(cIN z pt ix ci cg (.slice A n cp)).toArray)]) b6 vx x 256 (by decide) p6 hvx (by have e9:wtT x=9+x.length:=rfl; omega) w hw) (λv M hM=>?_)
 obtain ⟨s9,bad9,b9,q9,p9,rfl⟩:=hM
 refine Sy.nil<|Sy.in_<|Sy.then_<|Sy.region ?_
 refine sp rfl<|sS (.int .i64 ((i+1:Nat):Int)) (Quiet.pure (exec_int .add _ _ _ .i64 _ _ _ rfl rfl rfl (int_add _ _ _ _ _ ((wrap_i64 (by omega) (by omega)).trans (by omega)))))<|sp rfl ?_
 refine Sy.nil ?_
 have hW:=q6.then_ q9
 have hW':Wrote ((wi.take (i+1)).all ok256) ((wi.take (i+1)).flatMap encT) (((wi.take (i+1)).map wtT).sum) bad5 b5 bad9 b9:=by
  rw [htk]
  simp only [List.all_append,List.flatMap_append,List.map_append,List.sum_append,List.all_cons,List.all_nil,List.flatMap_cons,List.flatMap_nil,List.map_cons,List.map_nil,List.sum_cons,List.sum_nil,Bool.and_true,List.append_nil,Nat.add_zero]
  first | exact hW | simpa only [Bool.and_true] using hW
 exact Sy.againT (s9,bad9,b9) z3 ⟨hW',p9⟩ (all_cons kR (all_cons kR (all_cons kR all_nil))) (λw h=>h)
theorem txW_any (w0:Base) (gw:Nat) (bad:Bool) (s:Slc) (R:Blocks) (b:Byt) (x:MTr) (cs:List Value) (hx:repTR (rdW w0.world) cs x) (hb:BS s b) (hl:b.length+wtTR x≤1000000000000) (w:World) (hw:St w0 w (WB gw bad s R)) :
  Calls Tryz.prog 53 #[ptr gw,.agg cs.toArray] w (Turns w0 (Wd gw R (okTR x) (encTR x) (wtTR x) bad b)):=by
 obtain ⟨af,is,os⟩:=x
 obtain ⟨vi,vo,hcs,h1,⟨A,n,cp,rfl,n1,m2,m3,n4⟩,⟨A2,n2,cp2,rfl,k1,k2,k3,k4⟩⟩:=hx
 obtain rfl:cs=cTX af (.slice A n cp) (.slice A2 n2 cp2):=hcs
 dsimp only at h1 n1 n4 k1 k4
 unfold wtTR at hl
 dsimp only at hl
 have hi9:=sum_ge (wt:=wtIN) (λx=>by unfold wtIN; omega) is
 have ho9:=sum_ge (wt:=wtOU) (λx=>by unfold wtOU; omega) os
 have hlen:(cTX af (.slice A n cp) (.slice A2 n2 cp2)).length=3:=rfl
 refine Sy.enterT (args:=[ptr gw,.agg (cTX af (.slice A n cp) (.slice A2 n2 cp2)).toArray]) hw Tryz.func53 rfl kL ?_
 refine sC ?_
 refine sM 26 (cTX af (.slice A n cp) (.slice A2 n2 cp2)).toArray (λg3=>?_) kR (λw=>run_boxR rfl rfl (by kernel_rfl) hlen w)
 refine Sy.permS (M:=WB gw bad s (R++[(g3,26,(cTX af (.slice A n cp) (.slice A2 n2 cp2)).toArray)])) (List.Perm.of_eq (by simp only [List.append_assoc])) ?_
 have X0:XAt (rdC w0.inn [(g3,26,(cTX af (.slice A n cp) (.slice A2 n2 cp2)).toArray)]) g3 0 ((cTX af (.slice A n cp) (.slice A2 n2 cp2))):=λi u hu=>.inr ⟨_,_,List.mem_singleton.2 rfl,by rw [Nat.zero_add,List.getElem?_toArray]; exact hu⟩
 have X1:XAt (rdC w0.inn [(g3,26,(cTX af (.slice A n cp) (.slice A2 n2 cp2)).toArray)]) g3 1 ([.slice A n cp]++([.slice A2 n2 cp2])):=X0.right (n:=1) rfl
 have X2:XAt (rdC w0.inn [(g3,26,(cTX af (.slice A n cp) (.slice A2 n2 cp2)).toArray)]) g3 2 ([.slice A2 n2 cp2]):=X1.right (n:=1) rfl
 refine sA ?_
 refine sp rfl<|sP (.pointer (some ⟨g3,0,none⟩))<|sS (.int .u64 (af:Int)) (cellC (R:=[(g3,26,(cTX af (.slice A n cp) (.slice A2 n2 cp2)).toArray)]) (g:=g3) (f:=0) X0.one (λy hy=>inWB (List.mem_append_right R hy)) rfl Tryz.underlying22) ?_
 refine Sy.callT (λw hw=>numWd 8 (by decide) w0.inn gw bad s (R++[(g3,26,(cTX af (.slice A n cp) (.slice A2 n2 cp2)).toArray)]) b af h1 hb (by omega) w hw) (λu M hM=>?_)
 obtain ⟨s1,bad1,b1,q1,p1,rfl⟩:=hM
 have l1:b1.length≤b.length+8:=q1.len
 refine sA ?_
 refine sp rfl<|sP (.pointer (some ⟨g3,1,none⟩))<|sS (.slice A n cp) (cellC (R:=[(g3,26,(cTX af (.slice A n cp) (.slice A2 n2 cp2)).toArray)]) (g:=g3) (f:=1) X1.one (λy hy=>inWB (List.mem_append_right R hy)) rfl Tryz.underlying23)<|sP (.int .i64 (n:Int)) ?_
 refine Sy.callT (λw hw=>manyW_any w0.inn gw bad1 s1 (R++[(g3,26,(cTX af (.slice A n cp) (.slice A2 n2 cp2)).toArray)]) b1 n 16 (by omega) (by decide) p1 (by omega) w hw) (λu M hM=>?_)
 obtain ⟨s2,bad2,b2,q2,p2,rfl⟩:=hM
 have l2:b2.length≤b1.length+9:=q2.len
 refine sG<|Sy.seq<|sC ?_
 refine sP (.int .i64 0) ?_
 refine sG<|Sy.block ?_
 have hsum3:∀ i,((is.take i).map wtIN).sum≤(is.map wtIN).sum:=λi=>by
  have e:=congrArg (λz=>(z.map wtIN).sum) (List.take_append_drop i is)
  simp only [List.map_append,List.sum_append] at e
  omega
 refine Sy.loopT (Y:=Slc×Bool×Byt) n (λi _=>[(0,ptr gw),(3,ptr g3),(4,.int .i64 (i:Int))]) (λ_ y=>WB gw y.2.1 y.1 (R++[(g3,26,(cTX af (.slice A n cp) (.slice A2 n2 cp2)).toArray)])) (λi y=>Wrote ((is.take i).all okIN) ((is.take i).flatMap encIN) (((is.take i).map wtIN).sum) bad2 b2 y.2.1 y.2.2∧BS y.1 y.2.2) (s2,bad2,b2) ⟨by
  have e:=Wrote.raw [] bad2 b2 (k:=0) (Nat.le_refl 0)
  rw [List.append_nil] at e
  exact e,p2⟩ (all_cons kR (all_cons kR (all_cons kR all_nil))) (λ_ h=>h) (λi y hi hy=>?_)
 obtain ⟨s3,bad3,b3⟩:=y
 obtain ⟨q3,p3⟩:=hy
 dsimp only at q3 p3 ⊢
 refine Sy.seq<|sC ?_
 obtain ⟨t9,ht9⟩:∃ z:Bool,z=decide (i<n):=⟨_,rfl⟩
 refine sp rfl<|sP (.pointer (some ⟨g3,1,none⟩))<|sS (.slice A n cp) (cellC (R:=[(g3,26,(cTX af (.slice A n cp) (.slice A2 n2 cp2)).toArray)]) (g:=g3) (f:=1) X1.one (λy hy=>inWB (List.mem_append_right R hy)) rfl Tryz.underlying23)<|sP (.int .i64 (n:Int))<|sS (.bool t9) (Quiet.pure (exec_int .lss _ _ _ .i64 _ _ _ rfl rfl rfl (int_lss _ _ _ _ _ (by rw [ht9]; exact decide_eq_decide.2 (by omega))))) ?_
 refine sG ?_
 cases t9
 case' false =>
  have z3:¬ i<n:=of_decide_eq_false ht9.symm
  obtain rfl:n=i:=by omega
  rw [List.take_of_length_le (by omega)] at q3
  have l3:b3.length≤b2.length+(is.map wtIN).sum:=q3.len
  refine sU<|Sy.exit<|Sy.then_exit<|Sy.then_exit<|Sy.in_exit<|Sy.then_<|sC ?_
  refine sp rfl<|sP (.pointer (some ⟨g3,2,none⟩))<|sS (.slice A2 n2 cp2) (cellC (R:=[(g3,26,(cTX af (.slice A n cp) (.slice A2 n2 cp2)).toArray)]) (g:=g3) (f:=2) X2.one (λy hy=>inWB (List.mem_append_right R hy)) rfl Tryz.underlying24)<|sP (.int .i64 (n2:Int)) ?_
  refine Sy.callT (λw hw=>manyW_any w0.inn gw bad3 s3 (R++[(g3,26,(cTX af (.slice A n cp) (.slice A2 n2 cp2)).toArray)]) b3 n2 16 (by omega) (by decide) p3 (by omega) w hw) (λu M hM=>?_)
  obtain ⟨s4,bad4,b4,q4,p4,rfl⟩:=hM
  have l4:b4.length≤b3.length+9:=q4.len
  refine sA ?_
  refine sP (.int .i64 0) ?_
  refine sG<|Sy.block ?_
  have hsum5:∀ i,((os.take i).map wtOU).sum≤(os.map wtOU).sum:=λi=>by
   have e:=congrArg (λz=>(z.map wtOU).sum) (List.take_append_drop i os)
   simp only [List.map_append,List.sum_append] at e
   omega
  refine Sy.loopT (Y:=Slc×Bool×Byt) n2 (λi _=>[(0,ptr gw),(3,ptr g3),(5,.int .i64 (i:Int))]) (λ_ y=>WB gw y.2.1 y.1 (R++[(g3,26,(cTX af (.slice A n cp) (.slice A2 n2 cp2)).toArray)])) (λi y=>Wrote ((os.take i).all okOU) ((os.take i).flatMap encOU) (((os.take i).map wtOU).sum) bad4 b4 y.2.1 y.2.2∧BS y.1 y.2.2) (s4,bad4,b4) ⟨by
   have e:=Wrote.raw [] bad4 b4 (k:=0) (Nat.le_refl 0)
   rw [List.append_nil] at e
   exact e,p4⟩ (all_cons kR (all_cons kR (all_cons kR all_nil))) (λ_ h=>h) (λi y hi hy=>?_)
  obtain ⟨s5,bad5,b5⟩:=y
  obtain ⟨q5,p5⟩:=hy
  dsimp only at q5 p5 ⊢
  refine Sy.seq<|sC ?_
  obtain ⟨t9,ht9⟩:∃ z:Bool,z=decide (i<n2):=⟨_,rfl⟩
  refine sp rfl<|sP (.pointer (some ⟨g3,2,none⟩))<|sS (.slice A2 n2 cp2) (cellC (R:=[(g3,26,(cTX af (.slice A n cp) (.slice A2 n2 cp2)).toArray)]) (g:=g3) (f:=2) X2.one (λy hy=>inWB (List.mem_append_right R hy)) rfl Tryz.underlying24)<|sP (.int .i64 (n2:Int))<|sS (.bool t9) (Quiet.pure (exec_int .lss _ _ _ .i64 _ _ _ rfl rfl rfl (int_lss _ _ _ _ _ (by rw [ht9]; exact decide_eq_decide.2 (by omega))))) ?_
  refine sG ?_
  cases t9
  case' false =>
   have z3:¬ i<n2:=of_decide_eq_false ht9.symm
   obtain rfl:n2=i:=by omega
   rw [List.take_of_length_le (by omega)] at q5
   have l5:b5.length≤b4.length+(os.map wtOU).sum:=q5.len
   refine sU<|Sy.exit<|Sy.then_exit<|Sy.then_exit<|Sy.in_exit ?_
   have q:=q1.then_ ((q2.then_ q3).then_ (q4.then_ q5))
   rw [Bool.true_and, ← n1, ← k1] at q
   exact Sy.retT0 rfl (WB gw bad5 s5 R) (λ_ h=>dropW h) (λ_=>⟨s5,bad5,b5,q,p5,rfl⟩)
  have z3:i<n2:=of_decide_eq_true ht9.symm
  obtain ⟨x,hx⟩:∃ x,os[i]? = some x:=⟨_,List.getElem?_eq_getElem (by omega)⟩
  obtain ⟨g,o,hA,hq⟩:=k4 (by intro e; rw [e] at hx; cases hx)
  obtain ⟨cx,y1,y2,y3,y4⟩:=hq i x hx
  have d1:XAt (rdC w0.inn []) g (o+i*58) _:=λj u hu=>.inl (y4 j u hu)
  have htk:os.take (i+1)=os.take i++[x]:=by rw [List.take_add_one,hx]; rfl
  have hsi:=hsum5 (i+1)
  rw [htk] at hsi
  simp only [List.map_append,List.sum_append,List.map_cons,List.map_nil,List.sum_cons,List.sum_nil] at hsi
  have hyl:=q5.len
  refine sT<|Sy.skip<|Sy.then_<|Sy.seq<|Sy.block<|Sy.region ?_
  refine sp rfl<|sP (.pointer (some ⟨g3,2,none⟩))<|sS (.slice A2 n2 cp2) (cellC (R:=[(g3,26,(cTX af (.slice A n cp) (.slice A2 n2 cp2)).toArray)]) (g:=g3) (f:=2) X2.one (λy hy=>inWB (List.mem_append_right R hy)) rfl Tryz.underlying24)<|sp rfl<|sS (.pointer (some ⟨g,o+i*58,none⟩)) (Quiet.pure (exec_atO 24 _ _ _ A2 g o n2 cp2 i 58 .i64 hA rfl rfl rfl Tryz.underlying24 kF z3))<|sS (.agg cx.toArray) (rowC (R:=[]) d1 (λy hy=>by cases hy) y1 rfl Tryz.underlying88) ?_
  refine Sy.callT (λw hw=>outW_any w0.inn gw bad5 s5 (R++[(g3,26,(cTX af (.slice A n cp) (.slice A2 n2 cp2)).toArray)]) b5 x cx y3 p5 (by omega) w hw) (λv M hM=>?_)
  obtain ⟨s9,bad9,b9,q9,p9,rfl⟩:=hM
  refine Sy.nil<|Sy.in_<|Sy.then_<|Sy.region ?_
  refine sp rfl<|sS (.int .i64 ((i+1:Nat):Int)) (Quiet.pure (exec_int .add _ _ _ .i64 _ _ _ rfl rfl rfl (int_add _ _ _ _ _ ((wrap_i64 (by omega) (by omega)).trans (by omega)))))<|sp rfl ?_
  refine Sy.nil ?_
  have hW:=q5.then_ q9
  have hW':Wrote ((os.take (i+1)).all okOU) ((os.take (i+1)).flatMap encOU) (((os.take (i+1)).map wtOU).sum) bad4 b4 bad9 b9:=by
   rw [htk]
   simp only [List.all_append,List.flatMap_append,List.map_append,List.sum_append,List.all_cons,List.all_nil,List.flatMap_cons,List.flatMap_nil,List.map_cons,List.map_nil,List.sum_cons,List.sum_nil,Bool.and_true,List.append_nil,Nat.add_zero]
   first | exact hW | simpa only [Bool.and_true] using hW
  exact Sy.againT (s9,bad9,b9) z3 ⟨hW',p9⟩ (all_cons kR (all_cons kR (all_cons kR all_nil))) (λw h=>h)
 have z3:i<n:=of_decide_eq_true ht9.symm
 obtain ⟨x,hx⟩:∃ x,is[i]? = some x:=⟨_,List.getElem?_eq_getElem (by omega)⟩
 obtain ⟨g,o,hA,hq⟩:=n4 (by intro e; rw [e] at hx; cases hx)
 obtain ⟨cx,y1,y2,y3,y4⟩:=hq i x hx
 have d1:XAt (rdC w0.inn []) g (o+i*122) _:=λj u hu=>.inl (y4 j u hu)
 have htk:is.take (i+1)=is.take i++[x]:=by rw [List.take_add_one,hx]; rfl
 have hsi:=hsum3 (i+1)
 rw [htk] at hsi
 simp only [List.map_append,List.sum_append,List.map_cons,List.map_nil,List.sum_cons,List.sum_nil] at hsi
 have hyl:=q3.len
 refine sT<|Sy.skip<|Sy.then_<|Sy.seq<|Sy.block<|Sy.region ?_
 refine sp rfl<|sP (.pointer (some ⟨g3,1,none⟩))<|sS (.slice A n cp) (cellC (R:=[(g3,26,(cTX af (.slice A n cp) (.slice A2 n2 cp2)).toArray)]) (g:=g3) (f:=1) X1.one (λy hy=>inWB (List.mem_append_right R hy)) rfl Tryz.underlying23)<|sp rfl<|sS (.pointer (some ⟨g,o+i*122,none⟩)) (Quiet.pure (exec_atO 23 _ _ _ A g o n cp i 122 .i64 hA rfl rfl rfl Tryz.underlying23 kF z3))<|sS (.agg cx.toArray) (rowC (R:=[]) d1 (λy hy=>by cases hy) y1 rfl Tryz.underlying83) ?_
 refine Sy.callT (λw hw=>inW_any w0.inn gw bad3 s3 (R++[(g3,26,(cTX af (.slice A n cp) (.slice A2 n2 cp2)).toArray)]) b3 x cx y3 p3 (by omega) w hw) (λv M hM=>?_)
 obtain ⟨s9,bad9,b9,q9,p9,rfl⟩:=hM
 refine Sy.nil<|Sy.in_<|Sy.then_<|Sy.region ?_
 refine sp rfl<|sS (.int .i64 ((i+1:Nat):Int)) (Quiet.pure (exec_int .add _ _ _ .i64 _ _ _ rfl rfl rfl (int_add _ _ _ _ _ ((wrap_i64 (by omega) (by omega)).trans (by omega)))))<|sp rfl ?_
 refine Sy.nil ?_
 have hW:=q3.then_ q9
 have hW':Wrote ((is.take (i+1)).all okIN) ((is.take (i+1)).flatMap encIN) (((is.take (i+1)).map wtIN).sum) bad2 b2 bad9 b9:=by
  rw [htk]
  simp only [List.all_append,List.flatMap_append,List.map_append,List.sum_append,List.all_cons,List.all_nil,List.flatMap_cons,List.flatMap_nil,List.map_cons,List.map_nil,List.sum_cons,List.sum_nil,Bool.and_true,List.append_nil,Nat.add_zero]
  first | exact hW | simpa only [Bool.and_true] using hW
 exact Sy.againT (s9,bad9,b9) z3 ⟨hW',p9⟩ (all_cons kR (all_cons kR (all_cons kR all_nil))) (λw h=>h)
end Wr
end
section
namespace Wr
open Go.RowKit Sy
set_option maxRecDepth 100000
set_option maxHeartbeats 4000000
theorem txR_w (w:World) (x:MTr) (cs:List Value) (hx:repTR (rdW w) cs x) (hwt:wtTR x≤1000000000000) :
  Calls Tryz.prog 25 #[.agg cs.toArray] w (GetsN w (BytE (okTR x) (encTR x))):=by
 have hlen:cs.length=3:=by
  exact lenTR hx
 refine Sy.enter (args:=[.agg cs.toArray]) Tryz.func25 rfl kL ?_
 refine sC ?_
 refine sM 26 cs.toArray (λg1=>?_) kR (λw=>run_boxR rfl rfl (by kernel_rfl) hlen w)
 refine sP (.slice none 0 0)<|sP (.int .i64 0) ?_
 refine sA ?_
 refine sP (.agg #[.slice none 0 0,.bool false])<|sM 115 #[.slice none 0 0,.bool false] (λgw=>?_)
 refine sp rfl ?_
 refine sA ?_
 refine Sy.permS (M:=WB gw false nilS [(g1,26,cs.toArray)]) (Sy.perm_at [1,0] (by kernel_rfl) (by rfl)) ?_
 refine sp rfl<|sS (.agg cs.toArray) (Quiet.mid 1 g1 0 3 26 26 cs cs _ _ rfl kR rfl Tryz.underlying26 rfl kR (by rw [List.drop_zero,List.take_of_length_le (by omega)]) (by omega)) ?_
 refine Sy.callT (λw' hw=>txW_any (Base.of w) gw false nilS [(g1,26,cs.toArray)] [] x cs hx BS.nil (by show 0+_≤_; omega) w' hw) (λu M hM=>?_)
 obtain ⟨s',bad,b',q1,q2,rfl⟩:=hM
 have qb:=q1.bad
 refine sA ?_
 refine sp rfl ?_
 refine Sy.callT (λw' hw=>doneW_any (Base.of w) gw bad s' [(g1,26,cs.toArray)] w' hw) (λu M hM=>?_)
 obtain ⟨rfl,rfl⟩:=hM
 cases bad
 ·have hok:okTR x=true:=by
   cases h:okTR x with
   | true=>rfl
   | false=>rw [h] at qb; cases qb
  have hbb:b'=encTR x:=q1.bytes rfl
  rw [if_neg (by decide)]
  refine sp rfl<|sp rfl<|sp rfl<|sp rfl ?_
  refine sG<|Sy.ret ?_
  exact Sy.retGM2 s'.bl rfl (.inl (show _=_ by kernel_rfl)) (.inl (show _=_ by kernel_rfl)) (λ_ h=>h.less ((List.sublist_append_left _ _).trans (List.sublist_append_right _ _))) (.inl ⟨hok,_,rfl,by rw [← hbb]; exact q2.as⟩)
 ·have hok:okTR x=false:=by
   cases h:okTR x with
   | false=>rfl
   | true=>rw [h] at qb; cases qb
  rw [if_pos rfl]
  refine sp rfl<|sp rfl<|sp rfl<|sp rfl ?_
  refine sG<|Sy.ret ?_
  exact Sy.retGM2 [] rfl (.inl (show _=_ by kernel_rfl)) (.inl (show _=_ by kernel_rfl)) (λ_ h=>h.none) (.inr ⟨hok,rfl,rfl⟩)
end Wr
end
section
namespace Wr
open Go.RowKit Sy
set_option maxRecDepth 100000
set_option maxHeartbeats 4000000
abbrev zIN:List Value:=((([]:List Value))++([Value.int .i64 0]++(Z32++([Value.int .u32 0]++(([Value.int .i64 0]++(([Value.bool false]++([Value.int .u64 0]++lPT ⟨0,0,false⟩))++([Value.slice none 0 0]++([Value.int .u64 0]++(Z32++(Cu.fws 0))))))++((Z32++([Value.slice none 0 0]++([Value.int .u32 0]++([Value.int .u32 0]++([Value.slice none 0 0]++([Value.slice none 0 0]))))))++([Value.slice none 0 0]++(([]:List Value)))))))))
abbrev TbR (w:World):Prop:=Sh.TabAt w 0
theorem tbR_st {w0:Base} {w:World} {L:Blocks} (ht:TbR w0.world) (hw:St w0 w L):TbR w:=ht.below hw.below ht.lt
def BrR (C:Rdr) (af:Nat) (vo:Value) (l:List MIn) (u:Value) (M:Blocks):Prop:=∃ y:Slc,u=.agg #[.int .u64 (af:Int),y.v,vo]∧M=y.bl∧RowsX C 83 122 repIN y l
theorem bareR_at (w:World) (D:Rdr) (hD:Le D (rdW w)) (cs:List Value) (x:MTr) (hx:repTR D cs x) (hwt:wtTR x≤1000000000):∃ vo,cs[2]? = some vo∧LstR D 58 repOU vo x.outs∧vo.oneCell'=true∧vo.cells=#[vo]∧Calls Tryz.prog 43 #[.agg cs.toArray] w (GetsN w (BrR D x.after vo (x.ins.map bareI))):=by
 obtain ⟨af,is,os⟩:=x
 obtain ⟨vi,vo,rfl,h1,hI,hO⟩:=hx
 dsimp only at h1 hI hO
 obtain ⟨A,n,cp,rfl,hn1,hn2,hn3,hn4⟩:=id hI
 obtain ⟨A2,n2,cp2,rfl,ho1,ho2,ho3,ho4⟩:=id hO
 have hin:is.length≤100000000000:=by
  have q:=sum_ge1 (wt:=wtIN) (λx=>by unfold wtIN; omega) is
  unfold wtTR at hwt
  dsimp only at hwt
  omega
 refine ⟨_,rfl,hO,rfl,rfl,?_⟩
 dsimp only
 show Calls Tryz.prog 43 #[.agg #[.int .u64 (af:Int),.slice A n cp,.slice A2 n2 cp2]] w _
 refine Sy.enter (args:=[.agg #[.int .u64 (af:Int),.slice A n cp,.slice A2 n2 cp2]]) Tryz.func43 rfl kL ?_
 have hmx:n<9223372036854775808:=by simp only [maxLen] at hn3; omega
 refine sC ?_
 refine sM 26 #[.int .u64 (af:Int),.slice A n cp,.slice A2 n2 cp2] (λg1=>?_)
 refine sM 26 #[.int .u64 0,.slice none 0 0,.slice none 0 0] (λg2=>?_)
 refine sA ?_
 refine sP (.slice none 0 0) ?_
 refine sG<|Sy.seq<|sC ?_
 refine sP (.int .i64 0) ?_
 refine sG<|Sy.block ?_
 refine Sy.loopT (Y:=Slc) n (λk z=>[(1,ptr g1),(2,ptr g2),(3,z.v),(4,.int .i64 (k:Int))]) (λk z=>[(g1,26,#[.int .u64 (af:Int),.slice A n cp,.slice A2 n2 cp2]),(g2,26,#[.int .u64 0,.slice none 0 0,.slice none 0 0])]++(z.bl++[])) (λk z=>RowsX D 83 122 repIN z ((is.take k).map bareI)) nilS RowsX.nil (all_cons kR (all_cons kR (all_cons kR (all_cons kR all_nil)))) (λ_ h=>h) (λk z hk hz=>?_)
 refine Sy.seq<|sC ?_
 obtain ⟨b2,hb2⟩:∃ t_:Bool,t_=decide (k<n):=⟨_,rfl⟩
 refine sp rfl<|sP (.pointer (some ⟨g1,1,none⟩))<|sS (.slice A n cp) (qc 0 1 rfl rfl Tryz.underlying23)<|sP (.int .i64 (n:Int))<|sS (.bool b2) (Quiet.pure (exec_int .lss _ _ _ .i64 _ _ _ rfl rfl rfl (int_lss _ _ _ _ _ (by rw [hb2]; exact decide_eq_decide.2 (by omega))))) ?_
 refine sG ?_
 cases b2
 case' true =>
  have l2:k<n:=of_decide_eq_true hb2.symm
  obtain ⟨x,hx⟩:∃ x,is[k]? = some x:=⟨_,List.getElem?_eq_getElem (by omega)⟩
  obtain ⟨g,o,rfl,hq⟩:=hn4 (by intro e; rw [e] at hx; cases hx)
  obtain ⟨c,c1,c2,c3,c4⟩:=hq k x hx
  refine sT<|Sy.skip<|Sy.then_<|Sy.seq<|Sy.block<|sC ?_
  refine sP (.pointer (some ⟨g1,1,none⟩))<|sS (.slice (some ⟨g,o,none⟩) n cp) (qc 0 1 rfl rfl Tryz.underlying23)<|sp rfl<|sS (.pointer (some ⟨g,o+k*122,none⟩)) (Quiet.pure (exec_at 23 83 _ _ g o n cp k 122 .i64 rfl rfl rfl Tryz.underlying23 kF l2))<|sS (.agg c.toArray) (rowC (R:=[]) (cs:=c) (λi u hu=>rdW_base _ _ _ (hD _ _ _ (c4 i u hu))) (λ_ h=>by cases h) c1 rfl Tryz.underlying83) ?_
  refine sM 83 zIN.toArray (λg5=>?_)
  refine Sy.permS (M:=[(g1,26,#[.int .u64 (af:Int),.slice (some ⟨g,o,none⟩) n cp,.slice A2 n2 cp2]),(g2,26,#[.int .u64 0,.slice none 0 0,.slice none 0 0])]++([(g5,83,zIN.toArray)]++z.bl)) (by
   rw [List.append_nil]
   exact (List.Perm.of_eq (List.append_assoc [(g1,26,#[.int .u64 (af:Int),.slice (some ⟨g,o,none⟩) n cp,.slice A2 n2 cp2]),(g2,26,#[.int .u64 0,.slice none 0 0,.slice none 0 0])] z.bl _)).trans (List.perm_append_comm.append_left _)) ?_
  refine sw 2 rfl c.toArray (Writes.row 83 c 122 _ _ rfl kR kR kR c1 (by kernel_rfl) c2) ?_
  refine sA ?_
  refine sP (.pointer (some ⟨g5,121,none⟩))<|sw 2 rfl (c.toArray.setIfInBounds 121 (.slice none 0 0)) (Writes.one 121 66 (.slice none 0 0) _ _ rfl kR kR kR rfl rfl (by rw [List.size_toArray,c1]; decide) rfl) ?_
  rw [List.setIfInBounds_toArray]
  obtain ⟨c',hc'⟩:∃ c',c'=c.set 121 (.slice none 0 0):=⟨_,rfl⟩
  have c1':c'.length=122:=by rw [hc',List.length_set,c1]
  have c2':∀ u∈c',u.oneCell'=true:=λu hu=>by
   rw [hc'] at hu
   rcases List.mem_or_eq_of_mem_set hu with hu | rfl
   ·exact c2 u hu
   ·rfl
  have c3':repIN D c' (bareI x):=by rw [hc']; exact strip_rep c3
  rw [← hc']
  refine sG<|Sy.region ?_
  refine sp rfl<|sS (.agg c'.toArray) (Quiet.mid 2 g5 0 122 83 83 c' c' _ _ rfl kR rfl Tryz.underlying83 rfl kR (by rw [List.drop_zero,List.take_of_length_le (by omega)]) (by omega)) ?_
  refine Sy.make kR 83 c'.toArray (λg=>.slice (some ⟨g,0,none⟩) 1 1) (Makes.one 23 83 _ _ 122 _ c' rfl kR Tryz.underlying23 info_ins rfl rfl c1' (by decide) (by decide)) (λg6=>?_)
  obtain ⟨xs,z1,z2,z3⟩:=hz
  have hxl:xs.length=k:=by rw [z2,List.length_map,List.length_take]; omega
  refine Sy.permS (M:=([(g1,26,#[.int .u64 (af:Int),.slice (some ⟨g,o,none⟩) n cp,.slice A2 n2 cp2]),(g2,26,#[.int .u64 0,.slice none 0 0,.slice none 0 0])]++[(g5,83,c'.toArray),(g6,83,c'.toArray)])++(z.bl++[])) (by
   rw [List.append_nil]
   exact (List.Perm.of_eq (by simp only [List.append_assoc,List.cons_append,List.nil_append,List.set])).trans (((List.perm_append_comm (l₁:=z.bl) (l₂:=[(g6,83,c'.toArray)])).cons _).cons _ |>.cons _)) ?_
  refine Sy.appendR kR 23 83 _ _ 122 376 Tryz.underlying23 info_ins rfl rfl rfl rfl (by decide) _ _ rfl z1 rfl c' c1' c2' 3 g6 83 rfl rfl (by omega) (by simp only [maxLen]; omega) (λr hr=>?_)
  refine sp rfl ?_
  refine Sy.nil<|Sy.in_<|Sy.then_<|Sy.region ?_
  refine sp rfl<|sS (.int .i64 ((k+1:Nat):Int)) (Quiet.pure (exec_int .add _ _ _ .i64 _ _ _ rfl rfl rfl (int_add _ _ _ _ _ ((wrap_i64 (by omega) (by omega)).trans (by omega)))))<|sp rfl ?_
  refine Sy.nil ?_
  refine Sy.againT r l2 ⟨xs++[c'],hr,by rw [List.length_append,hxl,List.length_map,List.length_take]; show k+1=_; omega,λj y hy=>?_⟩ (all_cons kR (all_cons kR (all_cons kR (all_cons kR all_nil)))) (λw h=>h.less (by simp))
  rw [List.take_add_one,hx,List.map_append] at hy
  have hml:((is.take k).map bareI).length=k:=by rw [List.length_map,List.length_take]; omega
  rcases Nat.lt_or_ge j k with hlt | hge
  ·rw [List.getElem?_append_left (by omega)] at hy
   obtain ⟨d,d1,d2⟩:=z3 j y hy
   exact ⟨d,by rw [List.getElem?_append_left (by omega)]; exact d1,d2⟩
  ·rw [List.getElem?_append_right (by omega),hml] at hy
   cases hj:j - k with
   | zero =>
    rw [hj] at hy
    cases hy
    exact ⟨c',by rw [List.getElem?_append_right (by omega),hxl,hj]; rfl,c3'⟩
   | succ i=>rw [hj] at hy; cases hy
 have l2:¬ k<n:=of_decide_eq_false hb2.symm
 obtain rfl:k=n:=by omega
 rw [List.take_of_length_le (Nat.le_of_eq hn1)] at hz
 have hzc:z.v.cells=#[z.v]∧z.v.oneCell'=true:=by
  obtain ⟨xs,z1,_⟩:=hz
  exact z1.cells
 refine sU<|Sy.exit<|Sy.then_exit<|Sy.then_exit<|Sy.in_exit<|Sy.then_<|sC ?_
 refine sp rfl<|sP (.pointer (some ⟨g1,1,none⟩))<|sw 0 rfl #[.int .u64 (af:Int),z.v,.slice A2 n2 cp2] (Writes.one 1 23 z.v _ _ rfl kR kR kR hzc.1 hzc.2 kL rfl) ?_
 refine sA ?_
 refine sS (.agg #[.int .u64 (af:Int),z.v,.slice A2 n2 cp2]) (qk 0 0 3 rfl rfl Tryz.underlying26) ?_
 refine sw 1 rfl #[.int .u64 (af:Int),z.v,.slice A2 n2 cp2] (Writes.row 26 [.int .u64 (af:Int),z.v,.slice A2 n2 cp2] 3 _ _ rfl kR kR kR rfl (by kernel_rfl) (λu hu=>by
  simp only [List.mem_cons,List.not_mem_nil,or_false] at hu
  rcases hu with rfl | rfl | rfl
  ·rfl
  ·exact hzc.2
  ·rfl)) ?_
 refine sG<|Sy.ret ?_
 exact Sy.retGM z.bl rfl (.inl (Sy.Res.cell (ty':=26) g2 1 #[.int .u64 (af:Int),z.v,.slice A2 n2 cp2] _ rfl rfl Tryz.underlying26 rfl kR rfl)) (λ_ h=>h.less (by simp)) ⟨z,rfl,rfl,hz⟩
end Wr
end
section
namespace Wr
open Go.RowKit Sy
set_option maxRecDepth 100000
set_option maxHeartbeats 4000000
theorem lenOU9 {C:Rdr} {cs:List Value} {t:MOu} (h:repOU C cs t):cs.length=58:=by
 obtain ⟨vr,vs,vn,vc,rfl,h1,_⟩:=h
 simp only [cOU,List.length_append,cTG_len h1.1]
 rfl
def signNm:ByteArray:=⟨#[116,111,108,108,104,111,117,115,101,47,115,105,103,110]⟩
def place4 (z:Int):Byt:=nb 4 (z%4294967296).toNat
theorem place4_eq (z:Int):place4 z=[octB (z.fdiv 16777216),octB (z.fdiv 65536),octB (z.fdiv 256),octB z]:=by
 have key:∀ (a:Int) (n:Nat),(a%256).toNat%256=n%256→octB a=UInt8.ofNat n:=λa n h=>by
  unfold octB
  apply UInt8.toNat_inj.1
  rw [UInt8.toNat_ofNat',UInt8.toNat_ofNat']
  exact h
 have f1:z.fdiv 16777216=z / 16777216:=Int.fdiv_eq_ediv_of_nonneg _ (by decide)
 have f2:z.fdiv 65536=z / 65536:=Int.fdiv_eq_ediv_of_nonneg _ (by decide)
 have f3:z.fdiv 256=z / 256:=Int.fdiv_eq_ediv_of_nonneg _ (by decide)
 rw [key (z.fdiv 16777216) ((z%4294967296).toNat / 16777216) (by rw [f1]; omega),key (z.fdiv 65536) ((z%4294967296).toNat / 65536) (by rw [f2]; omega),key (z.fdiv 256) ((z%4294967296).toNat / 256) (by rw [f3]; omega),key z (z%4294967296).toNat (by omega)]
 show [UInt8.ofNat (_ / 256 ^ 3),UInt8.ofNat (_ / 256 ^ 2),UInt8.ofNat (_ / 256 ^ 1),UInt8.ofNat (_ / 256 ^ 0)]=_
 rw [Nat.pow_zero,Nat.div_one]
theorem place4_len (z:Int):(place4 z).length=4:=nb_len 4 _
def msgS (x:MTr) (z:Int) (o:MOu):Byt:=Sh.taggedS signNm.data.toList (byE (okTR (bareT x)) (encTR (bareT x))++(place4 z++byE (okOU o) (encOU o)))
theorem tag_tri (w:World) (nm:ByteArray) (hnm:nm.size≤1000000000) (g:Nat) (v1 v2 v3:Value) (a b c:Byt) (h1:BytR (rdW w) v1 a) (h2:BytR (rdW w) v2 b) (h3:BytR (rdW w) v3 c) (hb:Blk w g 29 #[v1,v2,v3]) (hl:(a++(b++c)).length≤1000000000) (ht:TbS w) :
  Calls Tryz.prog 33 #[.string nm,.slice (some ⟨g,0,none⟩) 3 3] w (Gets w (.agg ((Sh.taggedS nm.data.toList (a++(b++c))).map bv).toArray)):=by
 obtain ⟨x,rfl,rfl,hx⟩:=txOf h1
 obtain ⟨y,rfl,rfl,hy⟩:=txOf h2
 obtain ⟨z,rfl,rfl,hz⟩:=txOf h3
 exact Cu.tag_c w nm hnm g 29 [x,y,z] 3 3 _ (by simp [Sh.cat]) rfl hb (λu hu=>by
  simp only [List.mem_cons,List.not_mem_nil,or_false] at hu
  rcases hu with rfl | rfl | rfl <;> assumption) hl (by decide) ht
theorem tagR_tri (w:World) (nm:ByteArray) (hnm:nm.size≤1000000000) (g:Nat) (v1 v2 v3:Value) (a b c:Byt) (h1:BytR (rdW w) v1 a) (h2:BytR (rdW w) v2 b) (h3:BytR (rdW w) v3 c) (hb:Blk w g 29 #[v1,v2,v3]) (hl:(a++(b++c)).length≤1000000000) (ht:TbR w) :
  Calls Tryz.prog 44 #[.string nm,.slice (some ⟨g,0,none⟩) 3 3] w (Gets w (.agg ((Sh.taggedS nm.data.toList (a++(b++c))).map bv).toArray)):=by
 obtain ⟨x,rfl,rfl,hx⟩:=txOf h1
 obtain ⟨y,rfl,rfl,hy⟩:=txOf h2
 obtain ⟨z,rfl,rfl,hz⟩:=txOf h3
 have e:Sh.cat [x,y,z]=x.l++(y.l++z.l):=by simp [Sh.cat]
 have q:=Sh.taggedR_any w nm (some ⟨g,0,none⟩) [x,y,z] 3 (Cu.texts_blk hb (λu hu=>by
  simp only [List.mem_cons,List.not_mem_nil,or_false] at hu
  rcases hu with rfl | rfl | rfl <;> assumption)) ht hnm (by rw [e]; exact hl) (by show 3≤1000000000; omega)
 rw [e] at q
 exact q
theorem shr_i (t:TypeId) (z d:Int) (k:Nat) (hk:d=2 ^ min ((k:Int).toNat) 64) {P:Program} (w:World):(binOp .shr t (.int .i64 z) (.int .u64 (k:Int))).run P w=.ok (.int .i64 (z.fdiv d)) w:=int_shr t .i64 .u64 z k _ (by omega) (by rw [hk]; rfl) w
theorem msg_any (w:World) (cs:List Value) (x:MTr) (hx:repTR (rdW w) cs x) (hwt:wtTR x≤400000000) (z0:Int) (co:List Value) (o9:MOu) (ho9:repOU (rdW w) co o9) (hw9:wtOU o9≤400000000) (ht:TbS w):Calls Tryz.prog 26 #[.agg cs.toArray,.int .i64 z0,.agg co.toArray] w (Gets w (.agg ((msgS x z0 o9).map bv).toArray)):=by
 have hdom:=dom_bareT (domTR_of hx)
 have hlo9:co.length=58:=lenOU9 ho9
 have hln9:=lnOU (domOU_of ho9)
 obtain ⟨af,is,os⟩:=x
 obtain ⟨vi,vo,rfl,h1,hI,hO⟩:=hx
 dsimp only at h1 hI hO
 obtain ⟨A,n,cp,rfl,hn1,hn2,hn3,hn4⟩:=id hI
 obtain ⟨A2,n2,cp2,rfl,ho1,ho2,ho3,ho4⟩:=id hO
 have hin:is.length≤100000000000:=by
  have q:=sum_ge1 (wt:=wtIN) (λx=>by unfold wtIN; omega) is
  unfold wtTR at hwt
  dsimp only at hwt
  omega
 show Calls Tryz.prog 26 #[.agg #[.int .u64 (af:Int),.slice A n cp,.slice A2 n2 cp2],.int .i64 z0,.agg co.toArray] w _
 refine Sy.enter (args:=[.agg #[.int .u64 (af:Int),.slice A n cp,.slice A2 n2 cp2],.int .i64 z0,.agg co.toArray]) Tryz.func26 rfl kL ?_
 refine sC ?_
 refine sM 26 #[.int .u64 (af:Int),.slice A n cp,.slice A2 n2 cp2] (λg1=>?_)
 refine sM 88 co.toArray (λg5=>?_) kR (λw=>run_boxR rfl rfl (by kernel_rfl) hlo9 w)
 refine sM 28 ((List.replicate 32 (0:UInt8)).map bv).toArray (λg2=>?_)
 refine sA ?_
 refine sP (.pointer (some ⟨g1,1,none⟩))<|sS (.slice A n cp) (qc 0 1 rfl rfl Tryz.underlying23) ?_
 refine Sy.callN kR 32 #[.slice A n cp] kF (ClX (rdW w) 83 122 repIN is) (λw' hw=>cloneI_at hw _ is hI hin) (λu M hM=>?_)
 obtain ⟨y,rfl,rfl,hy⟩:=hM
 obtain ⟨Ay,cpy,hyv,hc1,hc2⟩:=hy.val
 rw [hn1] at hyv hc1
 rw [hyv]
 refine sP (.pointer (some ⟨g1,1,none⟩))<|sw 0 rfl #[.int .u64 (af:Int),.slice Ay n cpy,.slice A2 n2 cp2] (Writes.one 1 23 (.slice Ay n cpy) _ _ rfl kR kR kR rfl rfl kL rfl) ?_
 refine sG<|Sy.seq<|sC ?_
 refine sP (.pointer (some ⟨g1,1,none⟩))<|sS (.slice Ay n cpy) (qc 0 1 rfl rfl Tryz.underlying23)<|sP (.int .i64 (n:Int))<|sP (.int .i64 0) ?_
 refine sG<|Sy.block ?_
 have hmx:n<9223372036854775808:=by simp only [maxLen] at hc2; omega
 refine Sy.loopT (Y:=Slc) n (λk z=>[(3,ptr g1),(1,.int .i64 z0),(5,ptr g5),(6,ptr g2),(19,.int .i64 (n:Int)),(20,.int .i64 (k:Int))]) (λk z=>[(g1,26,#[.int .u64 (af:Int),.slice Ay n cpy,.slice A2 n2 cp2]),(g5,88,co.toArray),(g2,28,((List.replicate 32 (0:UInt8)).map bv).toArray)]++(z.bl++[])) (λk z=>RowsX (rdW w) 83 122 repIN z (strip k is)∧z.v=.slice Ay n cpy) y ⟨by have e:strip 0 is=is:=rfl; rw [e]; exact hy,hyv⟩ (all_cons kR (all_cons kR (all_cons kR (all_cons kR (all_cons kR (all_cons kR all_nil)))))) (λ_ h=>by rw [List.append_nil]; exact h) (λk z hk hz=>?_)
 obtain ⟨hz,hzv⟩:=hz
 refine sC ?_
 obtain ⟨b2,hb2⟩:∃ t_:Bool,t_=decide (k<n):=⟨_,rfl⟩
 refine sS (.bool b2) (Quiet.pure (exec_int .lss _ _ _ .i64 _ _ _ rfl rfl rfl (int_lss _ _ _ _ _ (by rw [hb2]; exact decide_eq_decide.2 (by omega))))) ?_
 refine sG<|Sy.seq ?_
 cases b2
 case' true =>
  have l2:k<n:=of_decide_eq_true hb2.symm
  obtain ⟨x,hx⟩:∃ x,is[k]? = some x:=⟨_,List.getElem?_eq_getElem (by omega)⟩
  have hsn:(strip k is).length=n:=by rw [strip_len,hn1]
  obtain ⟨g,cap,cells,rfl⟩:=hz.open (by intro e; rw [e] at hsn; simp at hsn; omega)
  rw [hsn] at hz hzv
  injection hzv with e1 e2 e3
  subst e1 e3
  obtain ⟨hz2,hlt⟩:=hz.set k 121 (.slice none 0 0) x (bareI x) (strip_at hx) (by decide) rfl (λcs h=>strip_rep h)
  rw [strip_set hx] at hz2
  rw [hsn]
  refine sT<|Sy.skip<|Sy.then_<|Sy.seq<|Sy.block<|sC ?_
  refine sp rfl<|sp rfl ?_
  refine sG<|Sy.region ?_
  refine sP (.pointer (some ⟨g1,1,none⟩))<|sS (.slice (some ⟨g,0,none⟩) n cap) (qc 0 1 rfl rfl Tryz.underlying23)<|sp rfl<|sS (.pointer (some ⟨g,0+k*122,none⟩)) (Quiet.pure (exec_at 23 83 _ _ g 0 n cap k 122 .i64 rfl rfl rfl Tryz.underlying23 kF l2))<|sP (.pointer (some ⟨g,0+k*122+121,none⟩))<|sw 3 rfl (cells.setIfInBounds (k*122+121) (.slice none 0 0)) (Writes.one (0+k*122+121) 66 (.slice none 0 0) _ _ rfl kR kR kR rfl rfl (by omega) (by rw [show 0+k*122+121=k*122+121 by omega])) ?_
  refine Sy.nil<|Sy.in_<|Sy.then_<|Sy.region ?_
  refine sS (.int .i64 ((k+1:Nat):Int)) (Quiet.pure (exec_int .add _ _ _ .i64 _ _ _ rfl rfl rfl (int_add _ _ _ _ _ ((wrap_i64 (by omega) (by omega)).trans (by omega)))))<|sp rfl ?_
  refine Sy.nil ?_
  exact Sy.againT ⟨.slice (some ⟨g,0,none⟩) n cap,[(g,83,cells.setIfInBounds (k*122+121) (.slice none 0 0))]⟩ l2 ⟨hz2,rfl⟩ (all_cons kR (all_cons kR (all_cons kR (all_cons kR (all_cons kR (all_cons kR all_nil)))))) (λ_ h=>h)
 have l2:¬ k<n:=of_decide_eq_false hb2.symm
 obtain rfl:k=n:=by omega
 refine sU<|Sy.exit<|Sy.then_exit<|Sy.then_exit<|Sy.in_exit<|Sy.then_ ?_
 have hzb:RowsX (rdW w) 83 122 repIN z (bareT ⟨af,is,os⟩).ins:=by
  show RowsX _ _ _ _ z (is.map bareI)
  rw [← strip_all,hn1]; exact hz
 refine sC ?_
 obtain ⟨d,hd⟩:∃ d,d=msgS ⟨af,is,os⟩ z0 o9:=⟨_,rfl⟩
 have hdl:(d.map bv).length=32:=by rw [List.length_map,hd]; exact tagged_len _ _
 rw [← hd]
 have old:∀ {L:Blocks} (w':World),St (Base.of w) w' L→Le (rdW w) (rdW w'):=λw' hw g o u h=>rdC_world (w0:=Base.of w) (R:=[]) hw (λ_ h=>by cases h) g o u (.inl h)
 refine sS (.agg #[.int .u64 (af:Int),.slice Ay k cpy,.slice A2 n2 cp2]) (qk 0 0 3 rfl rfl Tryz.underlying26) ?_
 refine Sy.callN kR 7 #[.agg #[.int .u64 (af:Int),.slice Ay k cpy,.slice A2 n2 cp2]] kF (BytE (okTR (bareT ⟨af,is,os⟩)) (encTR (bareT ⟨af,is,os⟩))) (λw' hw=>ex_txx (rep:=repTR) monoTR tx_w w' [.int .u64 (af:Int),.slice Ay k cpy,.slice A2 n2 cp2] (bareT ⟨af,is,os⟩) ⟨_,_,rfl,h1,by
   rw [← hzv]
   exact RowsX.lst (rep:=repIN) (C:=rdW w) (D:=rdW w') monoIN (old w' hw) (λg o u h=>rdC_world (R:=z.bl) hw (λb hb=>by simp [hb]) g o u (.inr h)) hzb,LstR.le (rep:=repOU) monoOU (old w' hw) hO⟩ rfl (by have:=wt_bareT ⟨af,is,os⟩; omega)) (λu M hM=>?_)
 obtain ⟨u,rfl,hb⟩:=hM.uni
 have hb0:=hb
 obtain ⟨Au,nu,cu,rfl,u2,u3,u4,u5⟩:=hb
 refine sp rfl<|sp rfl<|sp rfl<|sp rfl<|sp rfl ?_
 refine sA ?_
 refine sS (.agg co.toArray) (Quiet.mid 1 g5 0 58 88 88 co co _ _ rfl kR rfl Tryz.underlying88 rfl kR (by rw [List.drop_zero,List.take_of_length_le (by omega)]) (by omega)) ?_
 refine Sy.callN kR 38 #[.agg co.toArray] kF (BytE (okOU o9) (encOU o9)) (λw' hw=>ex_out (rep:=repOU) monoOU out_w w' co o9 (monoOU (old w' hw) ho9) hlo9 (by omega)) (λu M2 hM=>?_)
 obtain ⟨v,rfl,hc⟩:=hM.uni
 have hc0:=hc
 obtain ⟨Av,nv,cv,rfl,v2,v3,v4,v5⟩:=hc
 refine sp rfl<|sp rfl<|sp rfl<|sp rfl<|sp rfl ?_
 refine sA ?_
 refine sp rfl<|sS (.int .i64 (z0.fdiv 16777216)) (Quiet.pure (exec_int .shr _ _ _ .i64 (k':=.u64) _ 24 _ rfl rfl rfl (shr_i _ z0 16777216 24 rfl)))<|sS (bv (octB (z0.fdiv 16777216))) (Quiet.pure (λw'=>conv_i8 w' _ _ _ (z0.fdiv 16777216) rfl rfl))<|sp rfl<|sS (.int .i64 (z0.fdiv 65536)) (Quiet.pure (exec_int .shr _ _ _ .i64 (k':=.u64) _ 16 _ rfl rfl rfl (shr_i _ z0 65536 16 rfl)))<|sS (bv (octB (z0.fdiv 65536))) (Quiet.pure (λw'=>conv_i8 w' _ _ _ (z0.fdiv 65536) rfl rfl))<|sp rfl<|sS (.int .i64 (z0.fdiv 256)) (Quiet.pure (exec_int .shr _ _ _ .i64 (k':=.u64) _ 8 _ rfl rfl rfl (shr_i _ z0 256 8 rfl)))<|sS (bv (octB (z0.fdiv 256))) (Quiet.pure (λw'=>conv_i8 w' _ _ _ (z0.fdiv 256) rfl rfl))<|sp rfl<|sS (bv (octB (z0))) (Quiet.pure (λw'=>conv_i8 w' _ _ _ (z0) rfl rfl)) ?_
 refine Sy.make kR 5 #[bv (octB (z0.fdiv 16777216)),bv (octB (z0.fdiv 65536)),bv (octB (z0.fdiv 256)),bv (octB z0)] (λg=>.slice (some ⟨g,0,none⟩) 4 4) kF (λgp=>?_)
 refine sp rfl ?_
 refine sA ?_
 refine sp rfl<|sp rfl<|sp rfl ?_
 refine Sy.make kR 29 #[.slice Au nu cu,.slice (some ⟨gp,0,none⟩) 4 4,.slice Av nv cv] (λg=>.slice (some ⟨g,0,none⟩) 3 3) kF (λg3=>?_)
 have hlen:=lnTR hdom
 have hlw:=wt_bareT ⟨af,is,os⟩
 have hpl:place4 z0=[octB (z0.fdiv 16777216),octB (z0.fdiv 65536),octB (z0.fdiv 256),octB z0]:=place4_eq z0
 refine sS (.agg (d.map bv).toArray) (qg (λw' hw=>by
  rw [hd]
  refine tag_tri w' signNm (by decide) g3 (.slice Au nu cu) (.slice (some ⟨gp,0,none⟩) 4 4) (.slice Av nv cv) _ (place4 z0) _ (hb0.le (λg o u h=>rdC_world (R:=M) hw (λb hb=>by simp [hb]) g o u (.inr h))) ?_ (hc0.le (λg o u h=>rdC_world (R:=M2) hw (λb hb=>by simp [hb]) g o u (.inr h))) (hw.blk g3 _ _ (by simp)).2 ?_ (tbS_st ht hw)
  ·have hk:=(hw.blk gp 5 #[bv (octB (z0.fdiv 16777216)),bv (octB (z0.fdiv 65536)),bv (octB (z0.fdiv 256)),bv (octB z0)] (by simp)).2
   refine ⟨_,4,4,rfl,place4_len z0,Nat.le_refl _,by decide,λ_=>⟨gp,0,rfl,λj u hu=>⟨hk.lt,?_⟩⟩⟩
   rw [Nat.zero_add,hk.cell j]
   rw [hpl] at hu
   match j,hu with
   | 0,hu=>cases hu; rfl
   | 1,hu=>cases hu; rfl
   | 2,hu=>cases hu; rfl
   | 3,hu=>cases hu; rfl
  ·have q1:=lnE (ok:=okTR (bareT ⟨af,is,os⟩)) hlen
   have q2:=lnE (ok:=okOU o9) hln9
   rw [List.length_append,List.length_append,place4_len]
   omega)) ?_
 refine sw 2 rfl (d.map bv).toArray (Writes.row 28 (d.map bv) 32 _ _ rfl kR kR kR hdl (by simp) (λu hu=>by obtain ⟨b,_,rfl⟩:=List.mem_map.1 hu; rfl)) ?_
 refine sG<|Sy.ret ?_
 exact Sy.ret1 rfl (.inl (Sy.Res.cell (ty':=28) g2 2 (d.map bv).toArray _ rfl rfl Tryz.underlying28 rfl (by rw [List.size_toArray,hdl]; kernel_rfl) rfl))
end Wr
end
section
namespace Wr
open Go.RowKit Sy
set_option maxRecDepth 100000
set_option maxHeartbeats 4000000
theorem conv_i32 (w:World) (F:Slots) (o:Oper) (x:Operand) (z:Int) (ho:o.op=.convert 3 67 x) (hx:evF F x=.int .i64 z):(execOp (evF F) o).run Tryz.prog w=.ok (.value (.int .u32 (((z%4294967296).toNat:Nat):Int))) w:=by
 have e:(convert 3 67 (.int .i64 z)).run Tryz.prog w=.ok (.int .u32 (((z%4294967296).toNat:Nat):Int)) w:=by
  go_simp
  unfold IntKind.wrap; simp [IntKind.bits,IntKind.signed]; omega
 unfold execOp
 simp only [ho,hx,e,Sem.run_bind,Sem.run_pure,Result.andThen_ok]
theorem ByN.bytes {e:Byt} {u:Value} {M:Blocks} (h:ByN e u M):BytR (rdB M) u e:=by
 obtain ⟨A,n,cp,rfl,h⟩:=h
 exact Slc_byt h
theorem msg13_any (w:World) (cs:List Value) (x:MTr) (hx:repTR (rdW w) cs x) (hwt:wtTR x≤400000000) (z0:Int) (co:List Value) (o9:MOu) (ho9:repOU (rdW w) co o9) (hw9:wtOU o9≤400000000) (ht:TbR w):Calls Tryz.prog 28 #[.agg cs.toArray,.int .i64 z0,.agg co.toArray] w (Gets w (.agg ((msgS x z0 o9).map bv).toArray)):=by
 have hx0:=hx
 have hdom:=dom_bareT (domTR_of hx)
 have hlo9:co.length=58:=lenOU9 ho9
 have hln9:=lnOU (domOU_of ho9)
 obtain ⟨af,is,os⟩:=x
 obtain ⟨vi,vo,rfl,h1,hI,hO⟩:=hx
 dsimp only at h1 hI hO
 obtain ⟨A,n,cp,rfl,hn1,hn2,hn3,hn4⟩:=id hI
 obtain ⟨A2,n2,cp2,rfl,ho1,ho2,ho3,ho4⟩:=id hO
 show Calls Tryz.prog 28 #[.agg #[.int .u64 (af:Int),.slice A n cp,.slice A2 n2 cp2],.int .i64 z0,.agg co.toArray] w _
 have hx0:repTR (rdW w) [.int .u64 (af:Int),.slice A n cp,.slice A2 n2 cp2] ⟨af,is,os⟩:=hx0
 refine Sy.enter (args:=[.agg #[.int .u64 (af:Int),.slice A n cp,.slice A2 n2 cp2],.int .i64 z0,.agg co.toArray]) Tryz.func28 rfl kL ?_
 refine sC ?_
 refine sM 26 #[.int .u64 (af:Int),.slice A n cp,.slice A2 n2 cp2] (λg1=>?_)
 refine sM 88 co.toArray (λg5=>?_) kR (λw=>run_boxR rfl rfl (by kernel_rfl) hlo9 w)
 refine sM 28 ((List.replicate 32 (0:UInt8)).map bv).toArray (λg2=>?_)
 refine sA ?_
 obtain ⟨d,hd⟩:∃ d,d=msgS ⟨af,is,os⟩ z0 o9:=⟨_,rfl⟩
 have hdl:(d.map bv).length=32:=by rw [List.length_map,hd]; exact tagged_len _ _
 rw [← hd]
 have old:∀ {L:Blocks} (w':World),St (Base.of w) w' L→Le (rdW w) (rdW w'):=λw' hw g o u h=>rdC_world (w0:=Base.of w) (R:=[]) hw (λ_ h=>by cases h) g o u (.inl h)
 refine sS (.agg #[.int .u64 (af:Int),.slice A n cp,.slice A2 n2 cp2]) (qk 0 0 3 rfl rfl Tryz.underlying26) ?_
 refine Sy.callN kR 43 #[.agg #[.int .u64 (af:Int),.slice A n cp,.slice A2 n2 cp2]] kF (BrR (rdW w) af (.slice A2 n2 cp2) (is.map bareI)) (λw' hw=>by
  obtain ⟨vo,e1,_,_,_,q⟩:=bareR_at w' (rdW w) (old w' hw) [.int .u64 (af:Int),.slice A n cp,.slice A2 n2 cp2] ⟨af,is,os⟩ hx0 (by omega)
  cases e1
  exact q) (λu M0 hM=>?_)
 obtain ⟨y,rfl,rfl,hy⟩:=hM
 obtain ⟨Ay,cpy,hyv,hc1,hc2⟩:=hy.val
 rw [hyv]
 obtain ⟨ny,hny⟩:∃ ny,ny=(is.map bareI).length:=⟨_,rfl⟩
 rw [← hny] at hyv hc1 ⊢
 refine Sy.callN kR 25 #[.agg #[.int .u64 (af:Int),.slice Ay ny cpy,.slice A2 n2 cp2]] kF (BytE (okTR (bareT ⟨af,is,os⟩)) (encTR (bareT ⟨af,is,os⟩))) (λw' hw=>txR_w w' (bareT ⟨af,is,os⟩) [.int .u64 (af:Int),.slice Ay ny cpy,.slice A2 n2 cp2] ⟨_,_,rfl,h1,by
   rw [← hyv]
   exact RowsX.lst (rep:=repIN) (C:=rdW w) (D:=rdW w') monoIN (old w' hw) (λg o u h=>rdC_world (R:=y.bl) hw (λb hb=>by simp [hb]) g o u (.inr h)) hy,LstR.le (rep:=repOU) monoOU (old w' hw) hO⟩ (by have:=wt_bareT ⟨af,is,os⟩; omega)) (λu M hM=>?_)
 obtain ⟨u,rfl,hb⟩:=hM.uni
 have hb0:=hb
 obtain ⟨Au,nu,cu,rfl,u2,u3,u4,u5⟩:=hb
 refine sp rfl<|sp rfl<|sp rfl<|sp rfl<|sp rfl ?_
 refine sA ?_
 refine sS (.agg co.toArray) (Quiet.mid 1 g5 0 58 88 88 co co _ _ rfl kR rfl Tryz.underlying88 rfl kR (by rw [List.drop_zero,List.take_of_length_le (by omega)]) (by omega)) ?_
 refine Sy.callN kR 57 #[.agg co.toArray] kF (BytE (okOU o9) (encOU o9)) (λw' hw=>outR_w w' o9 co (monoOU (old w' hw) ho9) (by omega)) (λu M2 hM=>?_)
 obtain ⟨v,rfl,hc⟩:=hM.uni
 have hc0:=hc
 obtain ⟨Av,nv,cv,rfl,v2,v3,v4,v5⟩:=hc
 refine sp rfl<|sp rfl<|sp rfl<|sp rfl<|sp rfl ?_
 refine sA ?_
 have hz9:(z0%4294967296).toNat<4294967296:=by omega
 refine sp rfl<|sp rfl<|sS (.int .u32 (((z0%4294967296).toNat:Nat):Int)) (Quiet.pure (λw'=>conv_i32 w' _ _ _ z0 rfl rfl))<|sS (.int .u64 (((z0%4294967296).toNat:Nat):Int)) (Quiet.pure (λw'=>conv_48 w' _ _ _ _ hz9 rfl rfl)) ?_
 refine Sy.callN kR 58 #[.int .u64 (((z0%4294967296).toNat:Nat):Int),.int .i64 ((4:Nat):Int)] kF (ByN (nb 4 (z0%4294967296).toNat)) (λw' hw=>numberR_any w' _ 4 (by omega) (by decide)) (λu M3 hM=>?_)
 have hp:=hM.bytes
 have hp0:=hp
 obtain ⟨Ap,np,cq,rfl,p2,p3,p4,p5⟩:=hp
 refine sp rfl ?_
 refine Sy.make kR 29 #[.slice Au nu cu,.slice Ap np cq,.slice Av nv cv] (λg=>.slice (some ⟨g,0,none⟩) 3 3) kF (λg3=>?_)
 have hlen:=lnTR hdom
 have hlw:=wt_bareT ⟨af,is,os⟩
 refine sS (.agg (d.map bv).toArray) (qg (λw' hw=>by
  rw [hd]
  refine tagR_tri w' signNm (by decide) g3 (.slice Au nu cu) (.slice Ap np cq) (.slice Av nv cv) _ (place4 z0) _ (hb0.le (λg o u h=>rdC_world (R:=M) hw (λb hb=>by simp [hb]) g o u (.inr h))) (hp0.le (λg o u h=>rdC_world (R:=M3) hw (λb hb=>by simp [hb]) g o u (.inr h))) (hc0.le (λg o u h=>rdC_world (R:=M2) hw (λb hb=>by simp [hb]) g o u (.inr h))) (hw.blk g3 _ _ (by simp)).2 ?_ (tbR_st ht hw)
  have q1:=lnE (ok:=okTR (bareT ⟨af,is,os⟩)) hlen
  have q2:=lnE (ok:=okOU o9) hln9
  rw [List.length_append,List.length_append,place4_len]
  omega)) ?_
 refine sw 2 rfl (d.map bv).toArray (Writes.row 28 (d.map bv) 32 _ _ rfl kR kR kR hdl (by simp) (λu hu=>by obtain ⟨b,_,rfl⟩:=List.mem_map.1 hu; rfl)) ?_
 refine sG<|Sy.ret ?_
 exact Sy.ret1 rfl (.inl (Sy.Res.cell (ty':=28) g2 2 (d.map bv).toArray _ rfl rfl Tryz.underlying28 rfl (by rw [List.size_toArray,hdl]; kernel_rfl) rfl))
end Wr
end
section
namespace Pg
open Wr
abbrev Opn:=UInt8×Byt
def follow (c:UInt8):Option Nat:=if c.toNat≤64 then some c.toNat else if c.toNat=104 then some 2 else if 96≤c.toNat∧c.toNat≤108 then some 0 else none
def take (o:List Bool) (c:UInt8):Option (List Bool) :=
 if c.toNat=106 then some (o++[false])
 else if c.toNat=107 then (if o=[]∨o.getLast? = some true then none else some (o.dropLast++[true]))
 else if c.toNat=108 then (if o=[] then none else some o.dropLast)
 else some o
def parseN:Nat→Byt→List Bool→Nat×List Opn
 | _,[],o=>if o=[] then (0,[]) else (135,[])
 | 0,_::_,_=>(131,[])
 | n+1,c::r,o=>match follow c with
  | none=>(131,[])
  | some k=>if r.length<k then (131,[]) else match take o c with
   | none=>(135,[])
   | some o'=>if (parseN n (r.drop k) o').1=0 then (0,(c,r.take k)::(parseN n (r.drop k) o').2) else ((parseN n (r.drop k) o').1,[])
def parse (p:Byt):Nat×List Opn:=if 256<p.length then (130,[]) else parseN p.length p []
def fin (l:List Opn) (q:Nat×List Opn):Nat×List Opn:=if q.1=0 then (0,l++q.2) else (q.1,[])
theorem parseN_err (n:Nat) (p:Byt) (o:List Bool):(parseN n p o).1≠0→(parseN n p o).2=[]:=by
 cases n <;> cases p <;> unfold parseN <;> (repeat' split) <;> first | (intro _; rfl) | (intro h; exact absurd rfl h)
theorem fin_nil (n:Nat) (p:Byt) (o:List Bool):fin [] (parseN n p o)=parseN n p o:=by
 unfold fin
 split
 ·rename_i h; rw [List.nil_append, ← h]
 ·rename_i h; rw [← parseN_err n p o h]
theorem parse_more:∀ (n m:Nat) (p:Byt) (o:List Bool),p.length≤n→p.length≤m→parseN n p o=parseN m p o
 | n,m,[],o,_,_=>by cases n <;> cases m <;> rfl
 | 0,_,_::_,_,h,_=>by simp at h
 | _+1,0,_::_,_,_,h=>by simp at h
 | n+1,m+1,c::r,o,h1,h2=>by
  unfold parseN
  split
  ·rfl
  ·rename_i k _
   split
   ·rfl
   ·split
    ·rfl
    ·rename_i o' _
     have hl:(r.drop k).length≤n:=by rw [List.length_drop]; rw [List.length_cons] at h1; omega
     have hl2:(r.drop k).length≤m:=by rw [List.length_drop]; rw [List.length_cons] at h2; omega
     rw [parse_more n m (r.drop k) o' hl hl2]
def par (p:Byt) (o:List Bool):Nat×List Opn:=parseN p.length p o
theorem par_nil (o:List Bool):par [] o=if o=[] then (0,[]) else (135,[]):=rfl
theorem par_no {c:UInt8} {r:Byt} {o:List Bool} (h:follow c=none):par (c::r) o=(131,[]):=by
 unfold par; rw [List.length_cons]; unfold parseN; rw [h]
theorem par_short {c:UInt8} {r:Byt} {o:List Bool} {k:Nat} (h:follow c=some k) (hk:r.length<k):par (c::r) o=(131,[]):=by
 unfold par; rw [List.length_cons]; unfold parseN; rw [h]; dsimp only; rw [if_pos hk]
theorem par_if {c:UInt8} {r:Byt} {o:List Bool} {k:Nat} (h:follow c=some k) (hk:¬ r.length<k) (ht:take o c=none):par (c::r) o=(135,[]):=by
 unfold par; rw [List.length_cons]; unfold parseN; rw [h]; dsimp only; rw [if_neg hk,ht]
theorem par_go {c:UInt8} {r:Byt} {o o':List Bool} {k:Nat} (h:follow c=some k) (hk:¬ r.length<k) (ht:take o c=some o'):par (c::r) o=fin [(c,r.take k)] (par (r.drop k) o'):=by
 have e:parseN r.length (r.drop k) o'=par (r.drop k) o':=parse_more _ _ _ _ (by rw [List.length_drop]; omega) (Nat.le_refl _)
 have e2:par (c::r) o=if (parseN r.length (r.drop k) o').1=0 then (0,(c,r.take k)::(parseN r.length (r.drop k) o').2) else ((parseN r.length (r.drop k) o').1,[]):=by
  unfold par; rw [List.length_cons]
  conv=>lhs; unfold parseN
  rw [h]; dsimp only; rw [if_neg hk,ht]
 rw [e2,e]
 rfl
theorem fin_fin (l m:List Opn) (q:Nat×List Opn):fin l (fin m q)=fin (l++m) q:=by
 unfold fin
 by_cases h:q.1=0
 ·simp [h]
 ·simp [h]
def okO (x:Opn):Prop:=follow x.1=some x.2.length
theorem parseN_ok:∀ (n:Nat) (p:Byt) (o:List Bool), ∀ x∈(parseN n p o).2,okO x
 | n,[],o=>by
  intro x hx
  cases n <;> (unfold parseN at hx; split at hx <;> cases hx)
 | 0,_::_,_=>by intro x hx; cases hx
 | n+1,c::r,o=>by
  intro x hx
  unfold parseN at hx
  split at hx
  ·cases hx
  ·rename_i k hk
   split at hx
   ·cases hx
   ·split at hx
    ·cases hx
    ·rename_i hl o' _
     split at hx
     ·rcases List.mem_cons.1 hx with rfl | hx
      ·unfold okO; dsimp only; rw [hk,List.length_take,Nat.min_eq_left (by omega)]
      ·exact parseN_ok n _ _ x hx
     ·cases hx
theorem parse_ok (p:Byt):∀ x∈(parse p).2,okO x:=by
 intro x hx
 unfold parse at hx
 split at hx
 ·cases hx
 ·exact parseN_ok _ _ _ x hx
theorem parseN_len:∀ (n:Nat) (p:Byt) (o:List Bool),(parseN n p o).2.length≤n
 | n,[],o=>by cases n <;> (unfold parseN; split <;> simp)
 | 0,_::_,_=>Nat.le_refl _
 | n+1,c::r,o=>by
  unfold parseN
  split
  ·simp
  ·split
   ·simp
   ·split
    ·simp
    ·rename_i k _ _ o' _
     split
     ·rw [List.length_cons]; exact Nat.succ_le_succ (parseN_len n _ _)
     ·simp
theorem parse_len (p:Byt):(parse p).2.length≤256:=by
 unfold parse
 split
 ·simp
 ·exact Nat.le_trans (parseN_len _ _ _) (by omega)
def tru (b:Byt):Bool:=b.any λx=>x != 0
def rS (b:Bool):Byt:=if b then [1] else []
structure Env where
 V:Byt→Byt→Bool
 H:Byt→Byt
 h:Nat
def sgn (E:Env) (s key:Byt):Bool:=decide (key.length=32) && (decide (s.length=64) && E.V key s)
def needs (x:Opn):Nat :=
 if x.1.toNat≤64 then 0 else
 if x.1.toNat=104 then 2*(x.2.getD 1 0).toNat else
 if x.1.toNat=98∨x.1.toNat=101∨x.1.toNat=103 then 2 else
 if x.1.toNat=107∨x.1.toNat=108 then 0 else 1
def shr (E:Env):List Byt→List Byt→Option Nat
 | s::l,k::r=>if s=[] then shr E l r else if sgn E s k then (shr E l r).map (·+1) else none
 | _,_=>some 0
def share (E:Env) (t n:Nat) (l:List Byt):Bool:=match shr E (l.take n) (l.drop n) with | none=>false | some m=>decide (t≤m)
def does (E:Env) (x:Opn) (l:List Byt):Nat×List Byt :=
 let a:=l.getD 0 []
 let b:=l.getD 1 []
 match x.1.toNat with
 | 96=>if tru a then (0,[]) else (134,[])
 | 97=>(0,[rS (!tru a)])
 | 98=>(0,[rS (decide (a=b))])
 | 99=>(0,[a,a])
 | 100=>(0,[])
 | 101=>(0,[b,a])
 | 102=>(0,[E.H a])
 | 103=>(0,[rS (sgn E a b)])
 | 104=>(0,[rS (share E (x.2.getD 0 0).toNat (x.2.getD 1 0).toNat l)])
 | 105=>if 8<a.length∨E.h<said a then (136,[]) else (0,[])
 | 106=>(0,[])
 | 107=>(0,[])
 | 108=>(0,[])
 | _=>(0,[x.2])
def skp (x:Opn) (l:List Byt):Nat:=if x.1.toNat=107∨(x.1.toNat=106∧tru (l.getD 0 [])=false) then 1 else 0
def pas (c:UInt8) (k:Nat):Nat:=if c.toNat=106 then k+1 else if c.toNat=108 then k - 1 else if c.toNat=107∧k=1 then 0 else k
def exec (E:Env):List Opn→List Byt→Nat→Nat
 | [],st,_=>if st.length=1∧tru (st.getD 0 [])=true then 0 else 133
 | x::os,st,k =>
  if 0<k then exec E os st (pas x.1 k)
  else if st.length<needs x then 132
  else if (does E x (st.drop (st.length - needs x))).1≠0 then (does E x (st.drop (st.length - needs x))).1
  else if 32<(st.take (st.length - needs x)++(does E x (st.drop (st.length - needs x))).2).length then 132
  else exec E os (st.take (st.length - needs x)++(does E x (st.drop (st.length - needs x))).2) (skp x (st.drop (st.length - needs x)))
def fits (l:List Byt):Bool:=decide (l.length≤16) && l.all λb=>decide (b.length≤256)
def run (E:Env) (p:Byt) (wit:List Byt):Nat:=if (parse p).1≠0 then (parse p).1 else if fits wit then exec E (parse p).2 wit 0 else 130
end Pg
end
section
namespace Pg
open Go.RowKit Sy
set_option maxRecDepth 100000
set_option maxHeartbeats 4000000
open Wr
noncomputable def infBo:TypeInfo:=(Tryz.prog.info? 4).getD default
theorem info_bo:Tryz.prog.info? 4=some infBo:=by kernel_rfl
theorem conv_8i (w:World) (F:Slots) (o:Oper) (x:Operand) (u:UInt8) (ho:o.op=.convert 5 3 x) (hx:evF F x=bv u):(execOp (evF F) o).run Tryz.prog w=.ok (.value (.int .i64 ((u.toNat:Nat):Int))) w:=by
 have hu:=u.toNat_lt
 have e:(convert 5 3 (.int .u8 ((u.toNat:Nat):Int))).run Tryz.prog w=.ok (.int .i64 ((u.toNat:Nat):Int)) w:=by
  go_simp
  exact wrap_i64 (by omega) (by omega)
 unfold execOp
 simp only [ho,hx,bv,e,Sem.run_bind,Sem.run_pure,Result.andThen_ok]
abbrev folV (c:UInt8):Value:=.tuple #[.int .i64 (((follow c).getD 0:Nat):Int),.bool (follow c).isSome]
theorem follow_any (w:World) (c:UInt8):Calls Tryz.prog 161 #[bv c] w (Gets w (folV c)):=by
 have hc:=c.toNat_lt
 refine Sy.enter (args:=[bv c]) Tryz.func161 rfl kL ?_
 refine sC ?_
 refine sP (.int .i64 0)<|sP (.bool false) ?_
 refine sG<|Sy.seq<|Sy.block<|sC ?_
 obtain ⟨b1,hb1⟩:∃ z:Bool,z=decide (c.toNat≤64):=⟨_,rfl⟩
 refine sp rfl<|sS (.bool b1) (Quiet.pure (exec_int .leq _ _ _ .u8 _ _ _ rfl rfl rfl (int_leq _ _ _ _ _ (by rw [hb1]; exact decide_eq_decide.2 (by omega)))))<|sp rfl ?_
 refine sG ?_
 cases b1
 case' true =>
  have l1:c.toNat≤64:=of_decide_eq_true hb1.symm
  refine sT<|sC ?_
  refine sp rfl<|sS (.int .i64 ((c.toNat:Nat):Int)) (Quiet.pure (λw=>conv_8i w _ _ _ c rfl rfl))<|sp rfl<|sP (.bool true) ?_
  refine sG<|Sy.ret<|Sy.in_ret<|Sy.then_ret ?_
  have e:folV c=.tuple #[.int .i64 ((c.toNat:Nat):Int),.bool true]:=by unfold folV follow; rw [if_pos l1]; rfl
  rw [e]
  exact Sy.ret2 rfl (.inl (show _=_ by kernel_rfl)) (.inl (show _=_ by kernel_rfl))
 have l1:¬ c.toNat≤64:=of_decide_eq_false hb1.symm
 refine sU<|sC ?_
 obtain ⟨b2,hb2⟩:∃ z:Bool,z=decide (c.toNat=104):=⟨_,rfl⟩
 refine sp rfl<|sS (.bool b2) (Quiet.pure (exec_int .eql _ _ _ .u8 _ _ _ rfl rfl rfl (int_eql _ _ _ _ _ (by rw [hb2]; exact decide_eq_decide.2 (by omega)))))<|sp rfl ?_
 refine sG ?_
 cases b2
 case' true =>
  have l2:c.toNat=104:=of_decide_eq_true hb2.symm
  refine sT<|sC ?_
  refine sP (.int .i64 2)<|sP (.bool true) ?_
  refine sG<|Sy.ret<|Sy.in_ret<|Sy.then_ret ?_
  have e:folV c=.tuple #[.int .i64 2,.bool true]:=by unfold folV follow; rw [if_neg l1,if_pos l2]; rfl
  rw [e]
  exact Sy.ret2 rfl (.inl (show _=_ by kernel_rfl)) (.inl (show _=_ by kernel_rfl))
 have l2:¬ c.toNat=104:=of_decide_eq_false hb2.symm
 refine sU<|Sy.skip<|Sy.in_<|sB ?_
 obtain ⟨b3,hb3⟩:∃ z:Bool,z=decide (96≤c.toNat):=⟨_,rfl⟩
 refine sp rfl<|sS (.bool b3) (Quiet.pure (exec_int .geq _ _ _ .u8 _ _ _ rfl rfl rfl (int_geq _ _ _ _ _ (by rw [hb3]; exact decide_eq_decide.2 (by omega)))))<|sp rfl ?_
 cases b3
 case' false =>
  have l3:¬ 96≤c.toNat:=of_decide_eq_false hb3.symm
  refine sN<|sN<|sP (.bool false)<|sP (.int .i64 0)<|sp rfl ?_
  refine sG<|Sy.ret ?_
  have e:folV c=.tuple #[.int .i64 0,.bool false]:=by unfold folV follow; rw [if_neg l1,if_neg l2,if_neg (λh=>l3 h.1)]; rfl
  rw [e]
  exact Sy.ret2 rfl (.inl (show _=_ by kernel_rfl)) (.inl (show _=_ by kernel_rfl))
 have l3:96≤c.toNat:=of_decide_eq_true hb3.symm
 obtain ⟨b4,hb4⟩:∃ z:Bool,z=decide (c.toNat≤108):=⟨_,rfl⟩
 refine sp rfl<|sS (.bool b4) (Quiet.pure (exec_int .leq _ _ _ .u8 _ _ _ rfl rfl rfl (int_leq _ _ _ _ _ (by rw [hb4]; exact decide_eq_decide.2 (by omega)))))<|sP (.bool b4)<|sP (.int .i64 0)<|sp rfl ?_
 refine sG<|Sy.ret ?_
 have e:folV c=.tuple #[.int .i64 0,.bool b4]:=by
  unfold folV follow
  rw [if_neg l1,if_neg l2]
  cases b4
  ·have l4:¬ c.toNat≤108:=of_decide_eq_false hb4.symm
   rw [if_neg (λh=>l4 h.2)]; rfl
  ·have l4:c.toNat≤108:=of_decide_eq_true hb4.symm
   rw [if_pos ⟨l3,l4⟩]; rfl
 rw [e]
 exact Sy.ret2 rfl (.inl (show _=_ by kernel_rfl)) (.inl (show _=_ by kernel_rfl))
def brL (o:List Bool):List (List Value):=o.map λb=>[.bool b]
theorem brL_len (o:List Bool):(brL o).length=o.length:=List.length_map _
abbrev BrS (y:Slc) (o:List Bool):Prop:=y.Is 4 1 (brL o)
abbrev TKS (g:Nat) (y:Slc) (T:Blocks):Blocks:=[(g,271,#[y.v])]++(y.bl++T)
def TkR (g:Nat) (T:Blocks) (r:Option (List Bool)) (v:Value) (M:Blocks):Prop:=v=.bool r.isSome∧∃ y,M=TKS g y T∧∀ o',r=some o'→BrS y o'
theorem brL_one (o:List Bool):∀ y∈brL o,y.length=1:=λy hy=>by obtain ⟨u,_,rfl⟩:=List.mem_map.1 hy; rfl
theorem brL_oneC (o:List Bool):∀ y∈brL o, ∀ u∈y,u.oneCell'=true:=λy hy u hu=>by
 obtain ⟨w,_,rfl⟩:=List.mem_map.1 hy
 rw [List.mem_singleton.1 hu]; rfl
theorem brL_flat (o:List Bool):(brL o).flatten=o.map .bool:=by induction o with | nil=>rfl | cons u b ih=>show Value.bool u::(brL b).flatten=_; rw [ih]; rfl
theorem BrS.full {y:Slc} {o:List Bool} (h:BrS y o) (ho:o≠[]):∃ g cap sp,y=⟨.slice (some ⟨g,0,none⟩) o.length cap,[(g,4,(o.map Value.bool++sp).toArray)]⟩∧sp.length+o.length=cap∧cap≤maxLen:=by
 rcases h.row with ⟨e,rfl⟩ | ⟨g,cap,sp,rfl,h1,h2,h3⟩
 ·have:=congrArg List.length e
  rw [brL_len] at this
  exact (ho (List.eq_nil_of_length_eq_zero this)).elim
 ·rw [brL_flat,brL_len]
  rw [brL_len] at h1
  exact ⟨g,cap,sp,rfl,by omega,h3⟩
theorem BrS.mk {g n cap:Nat} {o:List Bool} {cs sp:List Value} (hc:cs=o.map Value.bool++sp) (hn:o.length=n) (hs:sp.length+n=cap) (hm:cap≤maxLen):BrS ⟨.slice (some ⟨g,0,none⟩) n cap,[(g,4,cs.toArray)]⟩ o:=by
 subst hn
 subst hc
 refine Slc.Is.mk' (brL_one o) (brL_oneC o) (brL_len o) ?_ ?_ (by omega) hm
 ·rw [brL_flat,Nat.mul_one,List.take_left' (by simp)]
 ·rw [List.length_append,List.length_map]; omega
end Pg
end
section
namespace Pg
open Go.RowKit Sy
set_option maxRecDepth 100000
set_option maxHeartbeats 4000000
open Wr
theorem set_mid (A B:List Value) (x v:Value) (n:Nat) (h:A.length=n):((A++x::B).toArray).setIfInBounds n v=(A++v::B).toArray:=by
 subst h
 simp
theorem get_mid (A B:List Value) (x:Value) (n:Nat) (h:A.length=n):((A++x::B).toArray)[n]? = some x:=by
 subst h
 simp
theorem take_else {o:List Bool} {c:UInt8} (h1:¬ c.toNat=106) (h2:¬ c.toNat=107) (h3:¬ c.toNat=108):take o c=some o:=by unfold take; rw [if_neg h1,if_neg h2,if_neg h3]
theorem take_nil (w0:Base) (g:Nat) (y:Slc) (T:Blocks) (c:UInt8) (hy:BrS y []) (w:World) (hw:St w0 w (TKS g y T)):Calls Tryz.prog 162 #[ptr g,bv c] w (Turns w0 (TkR g T (take [] c))):=by
 have hc:=c.toNat_lt
 refine Sy.enterT (args:=[ptr g,bv c]) hw Tryz.func162 rfl kL ?_
 refine sC ?_
 refine sP (.bool false) ?_
 refine sA ?_
 refine sp rfl<|sp rfl<|sS y.v (qc 0 0 rfl rfl Tryz.underlying271)<|sS (.int .i64 0) (Quiet.lenR hy (show (brL []).length=0 from rfl) _ Tryz.underlying271 rfl rfl)<|sP (.int .i64 (-1))<|sp rfl ?_
 refine sG<|Sy.seq<|sC ?_
 refine sp rfl ?_
 refine sG<|Sy.block<|sC ?_
 obtain ⟨b1,hb1⟩:∃ z:Bool,z=decide (c.toNat=106):=⟨_,rfl⟩
 refine sS (.bool b1) (Quiet.pure (exec_int .eql _ _ _ .u8 _ _ _ rfl rfl rfl (int_eql _ _ _ _ _ (by rw [hb1]; exact decide_eq_decide.2 (by omega)))))<|sp rfl ?_
 refine sG ?_
 cases b1
 case' true =>
  have l1:c.toNat=106:=of_decide_eq_true hb1.symm
  refine sT<|Sy.region ?_
  refine sp rfl<|sp rfl<|sp rfl<|sS y.v (qc 0 0 rfl rfl Tryz.underlying271) ?_
  refine Sy.make kR 4 #[.bool false] (λg=>.slice (some ⟨g,0,none⟩) 1 1) kF (λg1=>?_)
  refine Sy.movT ?_
  refine Sy.appendR kR 271 4 _ _ 1 1 Tryz.underlying271 info_bo rfl rfl rfl rfl (by decide) _ _ rfl hy kR [.bool false] rfl (λu hu=>by rw [List.mem_singleton.1 hu]; rfl) 1 g1 4 kR kR (by rw [brL_len]; simp <;> omega) (by rw [brL_len]; simp [maxLen] <;> omega) (λr hr=>?_)
  refine sp rfl<|sw 0 rfl #[r.v] (Writes.one 0 271 r.v _ _ rfl kR kR kR hr.cells.1 hr.cells.2 Nat.zero_lt_one kR) ?_
  refine Sy.setT ?_
  refine Sy.nil<|Sy.in_<|Sy.then_<|sC ?_
  refine sP (.bool true) ?_
  refine sG<|Sy.ret ?_
  exact Sy.retT1 (TKS g r T) rfl (.inl (show _=some (.bool true) by kernel_rfl)) (λw h=>keep1 h) (by
   have e:take [] c=some ([]++[false]):=by unfold take; rw [if_pos l1]
   rw [e]
   refine ⟨rfl,r,rfl,λo' ho=>?_⟩
   cases ho
   have e3:brL ([]++[false])=brL []++[[.bool false]]:=List.map_append
   show r.Is _ 1 (brL _)
   rw [e3]
   exact hr)
 have l1:¬ c.toNat=106:=of_decide_eq_false hb1.symm
 refine sU<|sC ?_
 obtain ⟨b2,hb2⟩:∃ z:Bool,z=decide (c.toNat=107):=⟨_,rfl⟩
 refine sS (.bool b2) (Quiet.pure (exec_int .eql _ _ _ .u8 _ _ _ rfl rfl rfl (int_eql _ _ _ _ _ (by rw [hb2]; exact decide_eq_decide.2 (by omega)))))<|sp rfl ?_
 refine sG ?_
 cases b2
 case' true =>
  have l2:c.toNat=107:=of_decide_eq_true hb2.symm
  refine sT<|Sy.seq<|sC ?_
  refine sp rfl<|sP (.bool true)<|sp rfl<|sN<|sN<|sN<|sN<|sN<|sN<|sP (.bool true) ?_
  refine sG<|sT<|sC ?_
  refine sP (.bool false) ?_
  refine sG<|Sy.ret<|Sy.then_ret<|Sy.in_ret<|Sy.then_ret ?_
  exact Sy.retT1 (TKS g y T) rfl (.inl (show _=some (.bool false) by kernel_rfl)) (λw h=>h) (by
   have e:take [] c=none:=by unfold take; rw [if_neg l1,if_pos l2,if_pos (.inl rfl)]
   rw [e]
   exact ⟨rfl,y,rfl,λo' ho=>by cases ho⟩)
 have l2:¬ c.toNat=107:=of_decide_eq_false hb2.symm
 refine sU<|sC ?_
 obtain ⟨b3,hb3⟩:∃ z:Bool,z=decide (c.toNat=108):=⟨_,rfl⟩
 refine sS (.bool b3) (Quiet.pure (exec_int .eql _ _ _ .u8 _ _ _ rfl rfl rfl (int_eql _ _ _ _ _ (by rw [hb3]; exact decide_eq_decide.2 (by omega)))))<|sp rfl ?_
 refine sG ?_
 cases b3
 case' true =>
  have l3:c.toNat=108:=of_decide_eq_true hb3.symm
  refine sT<|Sy.seq<|sC ?_
  refine sp rfl<|sP (.bool true) ?_
  refine sG<|sT<|sC ?_
  refine sP (.bool false) ?_
  refine sG<|Sy.ret<|Sy.then_ret<|Sy.in_ret<|Sy.then_ret ?_
  exact Sy.retT1 (TKS g y T) rfl (.inl (show _=some (.bool false) by kernel_rfl)) (λw h=>h) (by
   have e:take [] c=none:=by unfold take; rw [if_neg l1,if_neg l2,if_pos l3,if_pos rfl]
   rw [e]
   exact ⟨rfl,y,rfl,λo' ho=>by cases ho⟩)
 have l3:¬ c.toNat=108:=of_decide_eq_false hb3.symm
 refine sU<|Sy.skip<|Sy.in_<|Sy.then_<|sC ?_
 refine sP (.bool true) ?_
 refine sG<|Sy.ret ?_
 exact Sy.retT1 (TKS g y T) rfl (.inl (show _=some (.bool true) by kernel_rfl)) (λw h=>h) (by
  rw [take_else l1 l2 l3]
  refine ⟨rfl,_,rfl,λo' ho=>?_⟩
  cases ho
  exact hy)
theorem take_snoc (w0:Base) (g:Nat) (y:Slc) (T:Blocks) (c:UInt8) (d:List Bool) (x:Bool) (hy:BrS y (d++[x])) (hl:d.length≤1000) (w:World) (hw:St w0 w (TKS g y T)):Calls Tryz.prog 162 #[ptr g,bv c] w (Turns w0 (TkR g T (take (d++[x]) c))):=by
 obtain ⟨m,hm⟩:∃ m,m=d.length:=⟨_,rfl⟩
 obtain ⟨g2,cap,rr,rfl,h1,h2⟩:=hy.full (by simp)
 have e0:(d++[x]).length=m+1:=by rw [List.length_append, ← hm]; rfl
 have e1:((d++[x]).map Value.bool++rr)=d.map Value.bool++(Value.bool x::rr):=by simp
 have e2:(d.map Value.bool).length=m:=by rw [List.length_map,hm]
 rw [e0,e1] at hw hy
 rw [e0] at h1
 have hmx:m+1≤cap:=by omega
 have hc:=c.toNat_lt
 refine Sy.enterT (args:=[ptr g,bv c]) hw Tryz.func162 rfl kL ?_
 refine sC ?_
 refine sP (.bool false) ?_
 refine sA ?_
 refine sp rfl<|sp rfl<|sS (.slice (some ⟨g2,0,none⟩) (m+1) cap) (qc 0 0 rfl rfl Tryz.underlying271)<|sS (.int .i64 ((m+1:Nat):Int)) (Quiet.lenR hy (by rw [brL_len]; exact e0) _ Tryz.underlying271 rfl rfl)<|sS (.int .i64 ((m:Nat):Int)) (Quiet.pure (exec_int .sub _ _ _ .i64 _ _ _ rfl rfl rfl (int_sub _ _ _ _ _ ((wrap_i64 (by omega) (by omega)).trans (by omega)))))<|sp rfl ?_
 refine sG<|Sy.seq<|sC ?_
 refine sp rfl ?_
 refine sG<|Sy.block<|sC ?_
 obtain ⟨b1,hb1⟩:∃ z:Bool,z=decide (c.toNat=106):=⟨_,rfl⟩
 refine sS (.bool b1) (Quiet.pure (exec_int .eql _ _ _ .u8 _ _ _ rfl rfl rfl (int_eql _ _ _ _ _ (by rw [hb1]; exact decide_eq_decide.2 (by omega)))))<|sp rfl ?_
 refine sG ?_
 cases b1
 case' true =>
  have l1:c.toNat=106:=of_decide_eq_true hb1.symm
  refine sT<|Sy.region ?_
  refine sp rfl<|sp rfl<|sp rfl<|sS (.slice (some ⟨g2,0,none⟩) (m+1) cap) (qc 0 0 rfl rfl Tryz.underlying271) ?_
  refine Sy.make kR 4 #[.bool false] (λg=>.slice (some ⟨g,0,none⟩) 1 1) kF (λg1=>?_)
  refine Sy.movT ?_
  refine Sy.appendR kR 271 4 _ _ 1 1 Tryz.underlying271 info_bo rfl rfl rfl rfl (by decide) _ _ rfl hy kR [.bool false] rfl (λu hu=>by rw [List.mem_singleton.1 hu]; rfl) 1 g1 4 kR kR (by rw [brL_len]; simp <;> omega) (by rw [brL_len]; simp [maxLen] <;> omega) (λr hr=>?_)
  refine sp rfl<|sw 0 rfl #[r.v] (Writes.one 0 271 r.v _ _ rfl kR kR kR hr.cells.1 hr.cells.2 Nat.zero_lt_one kR) ?_
  refine Sy.setT ?_
  refine Sy.nil<|Sy.in_<|Sy.then_<|sC ?_
  refine sP (.bool true) ?_
  refine sG<|Sy.ret ?_
  exact Sy.retT1 (TKS g r T) rfl (.inl (show _=some (.bool true) by kernel_rfl)) (λw h=>keep1 h) (by
   have e:take (d++[x]) c=some ((d++[x])++[false]):=by unfold take; rw [if_pos l1]
   rw [e]
   refine ⟨rfl,r,rfl,λo' ho=>?_⟩
   cases ho
   have e3:brL ((d++[x])++[false])=brL (d++[x])++[[.bool false]]:=List.map_append
   show r.Is _ 1 (brL _)
   rw [e3]
   exact hr)
 have l1:¬ c.toNat=106:=of_decide_eq_false hb1.symm
 refine sU<|sC ?_
 obtain ⟨b2,hb2⟩:∃ z:Bool,z=decide (c.toNat=107):=⟨_,rfl⟩
 refine sS (.bool b2) (Quiet.pure (exec_int .eql _ _ _ .u8 _ _ _ rfl rfl rfl (int_eql _ _ _ _ _ (by rw [hb2]; exact decide_eq_decide.2 (by omega)))))<|sp rfl ?_
 refine sG ?_
 cases b2
 case' true =>
  have l2:c.toNat=107:=of_decide_eq_true hb2.symm
  refine sT<|Sy.seq<|sC ?_
  refine sp rfl<|sS (.bool false) (Quiet.pure (exec_int .lss _ _ _ .i64 _ _ _ rfl rfl rfl (int_lss _ _ _ _ _ (decide_eq_false (by omega)))))<|sp rfl<|sp rfl<|sp rfl<|sS (.slice (some ⟨g2,0,none⟩) (m+1) cap) (qc 0 0 rfl rfl Tryz.underlying271)<|sp rfl<|sS (.pointer (some ⟨g2,0+m*1,none⟩)) (Quiet.pure (exec_at 271 4 _ _ g2 0 (m+1) cap m 1 .i64 rfl rfl rfl Tryz.underlying271 kF (by omega)))<|sS (.bool x) (Quiet.cell 1 g2 (0+m*1) 4 4 _ _ _ rfl rfl rfl Tryz.underlying4 rfl _ (by rw [show 0+m*1=m by omega]; exact get_mid _ _ _ _ e2))<|sP (.bool x) ?_
  refine sG ?_
  cases x
  case' true =>
   refine sT<|sC ?_
   refine sP (.bool false) ?_
   refine sG<|Sy.ret<|Sy.then_ret<|Sy.in_ret<|Sy.then_ret ?_
   exact Sy.retT1 (TKS g ⟨.slice (some ⟨g2,0,none⟩) (m+1) cap,[(g2,4,(d.map Value.bool++(Value.bool true::rr)).toArray)]⟩ T) rfl (.inl (show _=some (.bool false) by kernel_rfl)) (λw h=>h) (by
    have e:take (d++[true]) c=none:=by unfold take; rw [if_neg l1,if_pos l2,if_pos (.inr (by simp))]
    rw [e]
    exact ⟨rfl,_,rfl,λo' ho=>by cases ho⟩)
  refine sU<|Sy.skip<|Sy.then_<|Sy.region ?_
  refine sp rfl<|sp rfl<|sS (.slice (some ⟨g2,0,none⟩) (m+1) cap) (qc 0 0 rfl rfl Tryz.underlying271)<|sp rfl<|sS (.pointer (some ⟨g2,0+m*1,none⟩)) (Quiet.pure (exec_at 271 4 _ _ g2 0 (m+1) cap m 1 .i64 rfl rfl rfl Tryz.underlying271 kF (by omega))) ?_
  refine sw 1 rfl (d.map Value.bool++(Value.bool true::rr)).toArray (Writes.one (0+m*1) 4 (.bool true) _ _ rfl rfl rfl kR rfl rfl (by simp; omega) (by rw [show 0+m*1=m by omega]; exact set_mid _ _ _ _ _ e2)) ?_
  refine Sy.nil<|Sy.in_<|Sy.then_<|sC ?_
  refine sP (.bool true) ?_
  refine sG<|Sy.ret ?_
  exact Sy.retT1 (TKS g ⟨.slice (some ⟨g2,0,none⟩) (m+1) cap,[(g2,4,(d.map Value.bool++(Value.bool true::rr)).toArray)]⟩ T) rfl (.inl (show _=some (.bool true) by kernel_rfl)) (λw h=>h) (by
   have e:take (d++[false]) c=some (d++[true]):=by unfold take; rw [if_neg l1,if_pos l2,if_neg (by simp)]; simp
   rw [e]
   refine ⟨rfl,_,rfl,λo' ho=>?_⟩
   cases ho
   exact BrS.mk (sp:=rr) (by simp) (by simp [← hm]) (by omega) h2)
 have l2:¬ c.toNat=107:=of_decide_eq_false hb2.symm
 refine sU<|sC ?_
 obtain ⟨b3,hb3⟩:∃ z:Bool,z=decide (c.toNat=108):=⟨_,rfl⟩
 refine sS (.bool b3) (Quiet.pure (exec_int .eql _ _ _ .u8 _ _ _ rfl rfl rfl (int_eql _ _ _ _ _ (by rw [hb3]; exact decide_eq_decide.2 (by omega)))))<|sp rfl ?_
 refine sG ?_
 cases b3
 case' true =>
  have l3:c.toNat=108:=of_decide_eq_true hb3.symm
  refine sT<|Sy.seq<|sC ?_
  refine sp rfl<|sS (.bool false) (Quiet.pure (exec_int .lss _ _ _ .i64 _ _ _ rfl rfl rfl (int_lss _ _ _ _ _ (decide_eq_false (by omega))))) ?_
  refine sG<|sU<|Sy.skip<|Sy.then_<|Sy.region ?_
  refine sp rfl<|sp rfl<|sp rfl<|sS (.slice (some ⟨g2,0,none⟩) (m+1) cap) (qc 0 0 rfl rfl Tryz.underlying271)<|sp rfl<|sS (.slice (some ⟨g2,0,none⟩) m cap) (Quiet.pure (exec_upto 271 _ _ g2 0 (m+1) cap m 1 .i64 rfl rfl rfl Tryz.underlying271 kF (by omega)))<|sp rfl ?_
  refine sw 0 rfl #[.slice (some ⟨g2,0,none⟩) m cap] (Writes.one 0 271 (.slice (some ⟨g2,0,none⟩) m cap) _ _ rfl kR kR kR rfl rfl Nat.zero_lt_one kR) ?_
  refine Sy.nil<|Sy.in_<|Sy.then_<|sC ?_
  refine sP (.bool true) ?_
  refine sG<|Sy.ret ?_
  exact Sy.retT1 (TKS g ⟨.slice (some ⟨g2,0,none⟩) m cap,[(g2,4,(d.map Value.bool++(Value.bool x::rr)).toArray)]⟩ T) rfl (.inl (show _=some (.bool true) by kernel_rfl)) (λw h=>h) (by
   have e:take (d++[x]) c=some d:=by unfold take; rw [if_neg l1,if_neg l2,if_pos l3,if_neg (by simp)]; simp
   rw [e]
   refine ⟨rfl,_,rfl,λo' ho=>?_⟩
   cases ho
   exact BrS.mk (sp:=Value.bool x::rr) rfl hm.symm (by rw [List.length_cons]; omega) h2)
 have l3:¬ c.toNat=108:=of_decide_eq_false hb3.symm
 refine sU<|Sy.skip<|Sy.in_<|Sy.then_<|sC ?_
 refine sP (.bool true) ?_
 refine sG<|Sy.ret ?_
 exact Sy.retT1 (TKS g ⟨.slice (some ⟨g2,0,none⟩) (m+1) cap,[(g2,4,(d.map Value.bool++(Value.bool x::rr)).toArray)]⟩ T) rfl (.inl (show _=some (.bool true) by kernel_rfl)) (λw h=>h) (by
  rw [take_else l1 l2 l3]
  refine ⟨rfl,_,rfl,λo' ho=>?_⟩
  cases ho
  exact hy)
theorem take_any (w0:Base) (g:Nat) (y:Slc) (T:Blocks) (o:List Bool) (c:UInt8) (hy:BrS y o) (hl:o.length≤1000) (w:World) (hw:St w0 w (TKS g y T)):Calls Tryz.prog 162 #[ptr g,bv c] w (Turns w0 (TkR g T (take o c))):=by
 rcases List.eq_nil_or_concat o with rfl | ⟨d,x,rfl⟩
 ·exact take_nil w0 g y T c hy w hw
 ·rw [List.concat_eq_append] at hy hl ⊢
  exact take_snoc w0 g y T c d x hy (by rw [List.length_append] at hl; omega) w hw
end Pg
end
section
namespace Pg
open Go.RowKit Sy
set_option maxRecDepth 100000
set_option maxHeartbeats 4000000
open Wr
noncomputable def infOp:TypeInfo:=(Tryz.prog.info? 275).getD default
theorem info_op:Tryz.prog.info? 275=some infOp:=by kernel_rfl
def opL (xs:List (Value×Opn)):List (List Value):=xs.map λz=>[bv z.2.1,z.1]
theorem opL_len (xs:List (Value×Opn)):(opL xs).length=xs.length:=List.length_map _
structure OpsY (C:Rdr) (y:Slc) (xs:List (Value×Opn)):Prop where
 row:y.Is 275 2 (opL xs)
 byt:∀ z∈xs,BytR C z.1 z.2.2
theorem OpsY.nil (C:Rdr):OpsY C nilS []:=⟨Slc.Is.nil _ _,λ_ h=>by cases h⟩
theorem OpsY.add {C:Rdr} {y y':Slc} {xs:List (Value×Opn)} {c:UInt8} {v:Value} {b:Byt} (h:OpsY C y xs) (hy:y'.Is 275 2 (opL xs++[[bv c,v]])) (hv:BytR C v b):OpsY C y' (xs++[(v,(c,b))]):=by
 refine ⟨?_,λz hz=>?_⟩
 ·have e:opL (xs++[(v,(c,b))])=opL xs++[[bv c,v]]:=List.map_append
  rw [e]; exact hy
 ·rcases List.mem_append.1 hz with hz | hz
  ·exact h.byt z hz
  ·rw [List.mem_singleton.1 hz]; exact hv
def PaR (C:Rdr) (L:Blocks) (q:Nat×List Opn) (v:Value) (M:Blocks):Prop:=∃ y xs,v=.tuple #[y.v,.int .i64 ((q.1:Nat):Int)]∧M=L++y.bl∧OpsY C y xs∧q.2=xs.map (·.2)
theorem PaR.no {C:Rdr} {L:Blocks} {n:Nat}:PaR C L (n,[]) (.tuple #[.slice none 0 0,.int .i64 ((n:Nat):Int)]) L:=⟨nilS,[],rfl,(List.append_nil _).symm,OpsY.nil C,rfl⟩
theorem two_one {c:UInt8} {v:Value} (h:v.oneCell'=true):∀ u∈[bv c,v],u.oneCell'=true:=λu hu=>by
 rcases List.mem_cons.1 hu with rfl | hu
 ·rfl
 ·rw [List.mem_singleton.1 hu]; exact h
theorem take_len {o o':List Bool} {c:UInt8} (h:take o c=some o'):o'.length≤o.length+1:=by
 unfold take at h
 split at h
 ·cases h; simp
 ·split at h
  ·split at h
   ·cases h
   ·cases h; simp
  ·split at h
   ·split at h
    ·cases h
    ·cases h; simp; omega
   ·cases h; omega
structure PY where
 yo:Slc
 o:List Bool
 y:Slc
 xs:List (Value×Opn)
 v:Value
 p:Byt
structure PH (C:Rdr) (p0:Byt) (k:Nat) (z:PY):Prop where
 ho:BrS z.yo z.o
 hy:OpsY C z.y z.xs
 hv:BytR C z.v z.p
 e:par p0 []=fin (z.xs.map (·.2)) (par z.p z.o)
 n1:z.p.length+k≤p0.length
 n2:z.o.length≤k
 n3:z.xs.length≤k
theorem parse_any (w0:Base) (L R:Blocks) (v:Value) (p:Byt) (hR:∀ b∈R,b∈L) (hv:BytR (rdC w0 R) v p) (w:World) (hw:St w0 w L):Calls Tryz.prog 99 #[v] w (Turns w0 (PaR (rdC w0 R) L (parse p))):=by
 have hv0:=hv
 obtain ⟨A,n,cp,rfl,h2,h3,h4,h5⟩:=hv
 refine Sy.enterT (args:=[.slice A n cp]) hw Tryz.func99 rfl kL ?_
 have hmx:cp<9223372036854775808:=by simp only [maxLen] at h4; omega
 refine sC ?_
 refine sP (.slice none 0 0)<|sP (.int .i64 0) ?_
 refine sG<|Sy.seq<|sC ?_
 obtain ⟨b1,hb1⟩:∃ z:Bool,z=decide (256<n):=⟨_,rfl⟩
 refine sp rfl<|sP (.int .i64 (n:Int))<|sS (.bool b1) (Quiet.pure (exec_int .gtr _ _ _ .i64 _ _ _ rfl rfl rfl (int_gtr _ _ _ _ _ (by rw [hb1]; exact decide_eq_decide.2 (by omega))))) ?_
 refine sG ?_
 cases b1
 case' true =>
  have l1:256<n:=of_decide_eq_true hb1.symm
  refine sT<|sC ?_
  refine sP (.slice none 0 0)<|sP (.int .i64 130) ?_
  refine sG<|Sy.ret<|Sy.then_ret ?_
  have e:parse p=(130,[]):=by unfold parse; rw [if_pos (by omega)]
  rw [e]
  exact Sy.retT2 L rfl (.inl (show _=_ by kernel_rfl)) (.inl (show _=_ by kernel_rfl)) (λ_ h=>h) PaR.no
 have l1:¬ 256<n:=of_decide_eq_false hb1.symm
 have ep:parse p=par p []:=by unfold parse; rw [if_neg (by omega)]; rfl
 rw [ep]
 refine sU<|Sy.skip<|Sy.then_<|sC ?_
 refine sP (.slice none 0 0) ?_
 refine sG<|sC ?_
 refine sM 271 #[.slice none 0 0] (λgO=>?_)
 refine sG<|Sy.seq<|Sy.block ?_
 refine Sy.loopT (Y:=PY) n (λk z=>[(0,z.v),(4,z.y.v),(5,ptr gO)]) (λk z=>TKS gO z.yo (z.y.bl++L)) (PH (rdC w0 R) p) ⟨nilS,[],nilS,[],.slice A n cp,p⟩ ⟨Slc.Is.nil _ _,OpsY.nil _,hv0,by rw [List.map_nil]; exact (fin_nil _ _ _).symm,by simp,by simp,by simp⟩ (all_cons kR (all_cons kR (all_cons kR all_nil))) (λw h=>h.perm List.perm_append_comm) (λk0 z hk0 hz=>?_)
 obtain ⟨yo,o0,y,xs,v1,p1⟩:=z
 obtain ⟨ho,hy,hv1,he,n1,n2,n3⟩:=hz
 dsimp only at ho hy hv1 he n1 n2 n3 ⊢
 have hv2:=hv1
 obtain ⟨A1,m,cp1,rfl,q2,q3,q4,q5⟩:=hv1
 have hmx1:cp1<9223372036854775808:=by simp only [maxLen] at q4; omega
 refine Sy.seq<|sC ?_
 obtain ⟨b2,hb2⟩:∃ z:Bool,z=decide (0<m):=⟨_,rfl⟩
 refine sp rfl<|sP (.int .i64 (m:Int))<|sS (.bool b2) (Quiet.pure (exec_int .gtr _ _ _ .i64 _ _ _ rfl rfl rfl (int_gtr _ _ _ _ _ (by rw [hb2]; exact decide_eq_decide.2 (by omega))))) ?_
 refine sG ?_
 cases b2
 case' false =>
  have l2:¬ 0<m:=of_decide_eq_false hb2.symm
  obtain rfl:p1=[]:=List.eq_nil_of_length_eq_zero (by omega)
  refine sU<|Sy.exit<|Sy.then_exit<|Sy.then_exit<|Sy.in_exit<|Sy.then_<|Sy.seq<|sC ?_
  obtain ⟨b3,hb3⟩:∃ z:Bool,z=decide (0<o0.length):=⟨_,rfl⟩
  refine sS yo.v (qc 0 0 rfl rfl Tryz.underlying271)<|sS (.int .i64 ((o0.length:Nat):Int)) (Quiet.lenR ho (brL_len o0) _ Tryz.underlying271 rfl rfl)<|sS (.bool b3) (Quiet.pure (exec_int .gtr _ _ _ .i64 _ _ _ rfl rfl rfl (int_gtr _ _ _ _ _ (by rw [hb3]; exact decide_eq_decide.2 (by omega))))) ?_
  refine sG ?_
  cases b3
  case' true =>
   have l3:0<o0.length:=of_decide_eq_true hb3.symm
   refine sT<|sC ?_
   refine sP (.slice none 0 0)<|sP (.int .i64 135) ?_
   refine sG<|Sy.ret<|Sy.then_ret ?_
   have e:par p []=(135,[]):=by
    rw [he,par_nil,if_neg (by intro e; rw [e] at l3; simp at l3)]; rfl
   rw [e]
   exact Sy.retT2 L rfl (.inl (show _=_ by kernel_rfl)) (.inl (show _=_ by kernel_rfl)) (λw h=>(Sy.St.parts (ls:=[[(gO,271,#[yo.v])],yo.bl,y.bl,L]) (ms:=[L]) [[(gO,271,#[yo.v])],yo.bl,y.bl] [3,0,1,2] kR rfl (by simp) (by simp) h)) PaR.no
  have l3:¬ 0<o0.length:=of_decide_eq_false hb3.symm
  obtain rfl:o0=[]:=List.eq_nil_of_length_eq_zero (by omega)
  refine sU<|Sy.skip<|Sy.then_<|sC ?_
  refine sp rfl<|sp rfl<|sP (.int .i64 0) ?_
  refine sG<|Sy.ret ?_
  have e:par p []=(0,xs.map (·.2)):=by
   rw [he,par_nil,if_pos rfl]
   show (0,_++[])=_
   rw [List.append_nil]
  rw [e]
  exact Sy.retT2 (L++y.bl) rfl (.inl (show _=some y.v by kernel_rfl)) (.inl (show _=some (.int .i64 0) by kernel_rfl)) (λw h=>(Sy.St.parts (ls:=[[(gO,271,#[yo.v])],yo.bl,y.bl,L]) (ms:=[L,y.bl]) [[(gO,271,#[yo.v])],yo.bl] [3,2,0,1] kR rfl (by simp) (by simp) h)) ⟨y,xs,rfl,rfl,hy,rfl⟩
 have l2:0<m:=of_decide_eq_true hb2.symm
 obtain ⟨c,r,rfl⟩:∃ c r,p1=c::r:=by
  cases p1 with
  | nil=>simp at q2; omega
  | cons c r=>exact ⟨c,r,rfl⟩
 obtain ⟨g,o,rfl,hq⟩:=q5 (by simp)
 have hc0:rdC w0 R g (o+0*1) (bv c):=hq 0 c rfl
 have hr:r.length+1=m:=by rw [← q2]; rfl
 have hcl:=c.toNat_lt
 refine sT<|Sy.skip<|Sy.then_<|Sy.block<|sC ?_
 have RL:∀ b∈R,b∈TKS gO yo (y.bl++L):=λb hb=>List.mem_append_right _ (List.mem_append_right _ (List.mem_append_right _ (hR b hb)))
 refine sp rfl<|sS (.pointer (some ⟨g,o+0*1,none⟩)) (Quiet.pure (exec_at 29 5 _ _ g o m cp1 0 1 .i64 rfl rfl rfl Tryz.underlying29 kF l2))<|sS (bv c) (cellC (R:=R) hc0 RL rfl Tryz.underlying5) ?_
 rcases hf:follow c with _ | k
 case' none =>
  refine sS (.tuple #[.int .i64 0,.bool false]) (by
   have e:folV c=.tuple #[.int .i64 0,.bool false]:=by unfold folV; rw [hf]; rfl
   rw [← e]; exact qg (λw _=>follow_any w c))<|sp rfl<|sp rfl<|sp rfl<|sp rfl<|sp rfl ?_
  refine sG<|Sy.seq<|sC ?_
  refine sp rfl<|sP (.bool true)<|sp rfl<|sN<|sN<|sN<|sN<|sN<|sP (.bool true) ?_
  refine sG<|sT<|sC ?_
  refine sP (.slice none 0 0)<|sP (.int .i64 131) ?_
  refine sG<|Sy.ret<|Sy.then_ret<|Sy.in_ret<|Sy.then_ret<|Sy.in_ret<|Sy.then_ret ?_
  have e:par p []=(131,[]):=by rw [he,par_no hf]; rfl
  rw [e]
  exact Sy.retT2 L rfl (.inl (show _=_ by kernel_rfl)) (.inl (show _=_ by kernel_rfl)) (λw h=>(Sy.St.parts (ls:=[[(gO,271,#[yo.v])],yo.bl,y.bl,L]) (ms:=[L]) [[(gO,271,#[yo.v])],yo.bl,y.bl] [3,0,1,2] kR rfl (by simp) (by simp) h)) PaR.no
 have hk9:k≤255:=by
  unfold follow at hf
  split at hf
  ·cases hf; omega
  ·split at hf
   ·cases hf; omega
   ·split at hf
    ·cases hf; omega
    ·cases hf
 refine sS (.tuple #[.int .i64 (k:Int),.bool true]) (by
  have e:folV c=.tuple #[.int .i64 (k:Int),.bool true]:=by unfold folV; rw [hf]; rfl
  rw [← e]; exact qg (λw _=>follow_any w c))<|sp rfl<|sp rfl<|sp rfl<|sp rfl<|sp rfl ?_
 refine sG<|Sy.seq<|sC ?_
 obtain ⟨b4,hb4⟩:∃ z:Bool,z=decide (m<1+k):=⟨_,rfl⟩
 refine sp rfl<|sP (.bool false)<|sp rfl<|sp rfl<|sP (.int .i64 (m:Int))<|sp rfl<|sS (.int .i64 ((1+k:Nat):Int)) (Quiet.pure (exec_int .add _ _ _ .i64 _ _ _ rfl rfl rfl (int_add _ _ _ _ _ ((wrap_i64 (by omega) (by omega)).trans (by omega)))))<|sS (.bool b4) (Quiet.pure (exec_int .lss _ _ _ .i64 _ _ _ rfl rfl rfl (int_lss _ _ _ _ _ (by rw [hb4]; exact decide_eq_decide.2 (by omega)))))<|sP (.bool b4) ?_
 refine sG ?_
 cases b4
 case' true =>
  have l4:m<1+k:=of_decide_eq_true hb4.symm
  refine sT<|sC ?_
  refine sP (.slice none 0 0)<|sP (.int .i64 131) ?_
  refine sG<|Sy.ret<|Sy.then_ret<|Sy.in_ret<|Sy.then_ret<|Sy.in_ret<|Sy.then_ret ?_
  have e:par p []=(131,[]):=by rw [he,par_short hf (by omega)]; rfl
  rw [e]
  exact Sy.retT2 L rfl (.inl (show _=_ by kernel_rfl)) (.inl (show _=_ by kernel_rfl)) (λw h=>(Sy.St.parts (ls:=[[(gO,271,#[yo.v])],yo.bl,y.bl,L]) (ms:=[L]) [[(gO,271,#[yo.v])],yo.bl,y.bl] [3,0,1,2] kR rfl (by simp) (by simp) h)) PaR.no
 have l4:¬ m<1+k:=of_decide_eq_false hb4.symm
 refine sU<|Sy.skip<|Sy.then_<|Sy.seq ?_
 refine Sy.regionD (λj=>j == 9) kR ?_
 refine sa 0 rfl rfl<|sv 1 rfl (.pointer (some ⟨g,o+0*1,none⟩)) (exec_at 29 5 _ _ g o m cp1 0 1 .i64 rfl rfl rfl Tryz.underlying29 kF l2)<|sD 2 rfl (bv c) (cellC (R:=R) hc0 RL rfl Tryz.underlying5)<|sa 3 rfl rfl<|sa 4 rfl rfl<|sv 5 rfl (.int .i64 ((1+k:Nat):Int)) (exec_int .add _ _ _ .i64 _ _ _ rfl rfl rfl (int_add _ _ _ _ _ ((wrap_i64 (by omega) (by omega)).trans (by omega))))<|sv 6 rfl (sliced (some ⟨g,o,none⟩) 1 (1+k) cp1 1) (exec_slh _ _ _ (some ⟨g,o,none⟩) m cp1 1 (1+k) rfl rfl rfl rfl (by omega) (by omega))<|sb 7 rfl (.agg #[bv c,sliced (some ⟨g,o,none⟩) 1 (1+k) cp1 1]) ?_
 refine Sy.makeD 8 rfl kR kR 275 #[.int .u8 0,.slice none 0 0] ptr kF (λg8=>?_)
 refine Sy.movTD ?_
 refine sx 9 rfl 1 rfl #[bv c,sliced (some ⟨g,o,none⟩) 1 (1+k) cp1 1] (wA rfl) ?_
 refine Sy.setTD ?_
 refine sE ?_
 refine Sy.then_<|Sy.seq<|sC ?_
 refine sP (.pointer (some ⟨g8,0,none⟩))<|sS (bv c) (qc 1 0 rfl rfl Tryz.underlying5) ?_
 refine Sy.permS (M:=TKS gO yo ([(g8,275,#[bv c,sliced (some ⟨g,o,none⟩) 1 (1+k) cp1 1])]++(y.bl++L))) (Sy.flat_perm (ls:=[[(gO,271,#[yo.v])],[(g8,275,#[bv c,sliced (some ⟨g,o,none⟩) 1 (1+k) cp1 1])],yo.bl,y.bl,L]) (ms:=[[(gO,271,#[yo.v])],yo.bl,[(g8,275,#[bv c,sliced (some ⟨g,o,none⟩) 1 (1+k) cp1 1])],y.bl,L]) [0,2,1,3,4] kR rfl (by simp) (by simp)) ?_
 have ht9:=λw hw=>take_any w0.inn gO yo ([(g8,275,#[bv c,sliced (some ⟨g,o,none⟩) 1 (1+k) cp1 1])]++(y.bl++L)) o0 c ho (by omega) w hw
 rcases ht:take o0 c with _ | o1
 case' none =>
  rw [ht] at ht9
  refine Sy.callT ht9 (λv M hM=>?_)
  obtain ⟨rfl,yo1,rfl,_⟩:=hM
  refine sP (.bool true) ?_
  refine sG<|sT<|sC ?_
  refine sP (.slice none 0 0)<|sP (.int .i64 135) ?_
  refine sG<|Sy.ret<|Sy.then_ret<|Sy.in_ret<|Sy.then_ret<|Sy.in_ret<|Sy.then_ret ?_
  have e:par p []=(135,[]):=by rw [he,par_if hf (by omega) ht]; rfl
  rw [e]
  exact Sy.retT2 L rfl (.inl (show _=_ by kernel_rfl)) (.inl (show _=_ by kernel_rfl)) (λw h=>(Sy.St.parts (ls:=[[(gO,271,#[yo1.v])],yo1.bl,[(g8,275,#[bv c,sliced (some ⟨g,o,none⟩) 1 (1+k) cp1 1])],y.bl,L]) (ms:=[L]) [[(gO,271,#[yo1.v])],yo1.bl,[(g8,275,#[bv c,sliced (some ⟨g,o,none⟩) 1 (1+k) cp1 1])],y.bl] [4,0,1,2,3] kR rfl (by simp) (by simp) h)) PaR.no
 rw [ht] at ht9
 refine Sy.callT ht9 (λv M hM=>?_)
 obtain ⟨rfl,yo1,rfl,hyo⟩:=hM
 have hyo:=hyo o1 rfl
 refine sP (.bool false) ?_
 refine sG<|sU<|Sy.skip<|Sy.then_<|sC ?_
 refine Sy.permS (M:=[(gO,271,#[yo1.v]),(g8,275,#[bv c,sliced (some ⟨g,o,none⟩) 1 (1+k) cp1 1])]++(y.bl++(yo1.bl++L))) (Sy.flat_perm (ls:=[[(gO,271,#[yo1.v])],yo1.bl,[(g8,275,#[bv c,sliced (some ⟨g,o,none⟩) 1 (1+k) cp1 1])],y.bl,L]) (ms:=[[(gO,271,#[yo1.v])],[(g8,275,#[bv c,sliced (some ⟨g,o,none⟩) 1 (1+k) cp1 1])],y.bl,yo1.bl,L]) [0,2,3,1,4] kR rfl (by simp) (by simp)) ?_
 refine sp rfl<|sS (.agg #[bv c,sliced (some ⟨g,o,none⟩) 1 (1+k) cp1 1]) (qk 1 0 2 rfl rfl Tryz.underlying275) ?_
 have hsl:(sliced (some ⟨g,o,none⟩) 1 (1+k) cp1 1).oneCell'=true:=rfl
 refine Sy.make kR 275 #[bv c,sliced (some ⟨g,o,none⟩) 1 (1+k) cp1 1] (λg=>.slice (some ⟨g,0,none⟩) 1 1) (Makes.one 184 275 _ _ 2 _ [bv c,sliced (some ⟨g,o,none⟩) 1 (1+k) cp1 1] rfl kR Tryz.underlying184 info_op rfl rfl rfl (by decide) (by decide)) (λg9=>?_)
 refine Sy.movT ?_
 refine Sy.appendR kR 184 275 _ _ 2 32 Tryz.underlying184 info_op rfl rfl rfl rfl (by decide) _ _ rfl hy.row kR [bv c,sliced (some ⟨g,o,none⟩) 1 (1+k) cp1 1] rfl (two_one hsl) 2 g9 275 kR kR (by rw [opL_len]; omega) (by rw [opL_len]; simp only [maxLen]; omega) (λy1 hy1=>?_)
 refine sp rfl ?_
 refine sG<|Sy.region ?_
 refine sp rfl<|sp rfl<|sS (.int .i64 ((1+k:Nat):Int)) (Quiet.pure (exec_int .add _ _ _ .i64 _ _ _ rfl rfl rfl (int_add _ _ _ _ _ ((wrap_i64 (by omega) (by omega)).trans (by omega)))))<|sS (sliced (some ⟨g,o,none⟩) (1+k) m cp1 1) (Quiet.pure (exec_sl _ _ _ m cp1 (1+k) rfl rfl rfl (by omega)))<|sp rfl ?_
 refine Sy.nil<|Sy.in_ ?_
 have hb2':BytR (rdC w0 R) (sliced (some ⟨g,o,none⟩) 1 (1+k) cp1 1) (r.take k):=by
  have:=hv2.slice (l:=1) (m:=1+k) (by omega) (by omega)
  rwa [List.drop_succ_cons,List.drop_zero,show 1+k - 1=k by omega] at this
 have hb3':BytR (rdC w0 R) (sliced (some ⟨g,o,none⟩) (1+k) m cp1 1) (r.drop k):=by
  have:=hv2.drop (l:=1+k) (by omega)
  rwa [Nat.add_comm,List.drop_succ_cons,Nat.add_comm] at this
 rw [List.length_cons] at n1
 have n4:=take_len ht
 exact Sy.againT ⟨yo1,o1,y1,xs++[(sliced (some ⟨g,o,none⟩) 1 (1+k) cp1 1,(c,r.take k))],sliced (some ⟨g,o,none⟩) (1+k) m cp1 1,r.drop k⟩ (by omega) ⟨hyo,hy.add hy1 hb2',hb3',by
  rw [he,par_go hf (by omega) ht,fin_fin,List.map_append]; rfl,by show (r.drop k).length+_≤_; rw [List.length_drop]; omega,by show o1.length≤_; omega,by show (xs++[_]).length≤_; rw [List.length_append,List.length_singleton]; omega⟩ (all_cons kR (all_cons kR (all_cons kR all_nil))) (λw h=>(Sy.St.parts (ls:=[[(gO,271,#[yo1.v])],[(g8,275,#[bv c,sliced (some ⟨g,o,none⟩) 1 (1+k) cp1 1])],[(g9,275,#[bv c,sliced (some ⟨g,o,none⟩) 1 (1+k) cp1 1])],y1.bl,yo1.bl,L]) (ms:=[[(gO,271,#[yo1.v])],yo1.bl,y1.bl,L]) [[(g8,275,#[bv c,sliced (some ⟨g,o,none⟩) 1 (1+k) cp1 1])],[(g9,275,#[bv c,sliced (some ⟨g,o,none⟩) 1 (1+k) cp1 1])]] [0,4,3,5,1,2] kR rfl (by simp) (by simp) h))
end Pg
end
section
namespace Pg
open Go.RowKit Sy
set_option maxRecDepth 100000
set_option maxHeartbeats 4000000
open Wr
theorem int_shl8u (t:TypeId) (a:Nat) (ha:a<72057594037927936) (w:World):(binOp .shl t (.int .u64 (a:Int)) (.int .u64 8)).run Tryz.prog w=.ok (.int .u64 ((a*256:Nat):Int)) w:=int_shl8 t a ha w
theorem str_of {w:World} {A:Option Addr} {n cp:Nat} {b:Byt} (h:BytR (rdW w) (.slice A n cp) b):(convert 29 9 (.slice A n cp)).run Tryz.prog w=.ok (.string ⟨b.toArray⟩) w:=by
 obtain ⟨A',n',cp',e,h2,h3,h4,h5⟩:=h
 injection e with e1 e2 e3
 subst e1 e2 e3
 subst h2
 rcases b with _ | ⟨x,m⟩
 ·cases A with
  | none =>
   rw [show ([]:List UInt8).length=0 from rfl,run_convert_bytes_string w 29 9 5 none 0 cp Tryz.underlying29 Tryz.underlying5 Tryz.underlying9]
   rfl
  | some a=>exact run_convert_bytes_back w 29 9 5 a cp [] Tryz.underlying29 Tryz.underlying5 Tryz.underlying9 (λj hj=>absurd hj (Nat.not_lt_zero _))
 ·obtain ⟨g,o,rfl,hq⟩:=h5 (by simp)
  refine run_convert_bytes_back w 29 9 5 _ cp _ Tryz.underlying29 Tryz.underlying5 Tryz.underlying9 (λj hj=>?_)
  rw [addr_off]
  exact (hq j _ (List.getElem?_eq_getElem hj)).2
theorem strC {w0:Base} {F:Slots} {L:Blocks} {o:Oper} {v:Value} {b:Byt} (x:Operand) (ho:o.op=.convert 29 9 x) (hx:evF F x=v) (hv:∀ w,St w0 w L→BytR (rdW w) v b):Quiet Tryz.prog w0 F L o (.string ⟨b.toArray⟩):=λw hw=>by
 have q:=hv w hw
 obtain ⟨A,n,cp,rfl,_⟩:=hv w hw
 unfold Gives execOp
 simp only [ho,hx,Sem.run_bind,str_of q,Result.andThen_ok,Sem.run_pure]
 exact ⟨trivial,Gr.refl _⟩
theorem eql_str (w:World) (F:Slots) (o:Oper) (x y:Operand) (a b:List UInt8) {yt:TypeId} (ho:o.op=.binOp .eql 9 x y yt) (hx:evF F x=.string ⟨a.toArray⟩) (hy:evF F y=.string ⟨b.toArray⟩):(execOp (evF F) o).run Tryz.prog w=.ok (.value (.bool (decide (a=b)))) w:=by
 have h1:(eqGuard .eql 9 x y (.string ⟨a.toArray⟩) (.string ⟨b.toArray⟩)).run Tryz.prog w=.ok () w:=by go_simp
 have h2:(binOp .eql 9 (.string ⟨a.toArray⟩) (.string ⟨b.toArray⟩)).run Tryz.prog w=.ok (.bool (decide (a=b))) w:=by
  by_cases e:a=b <;> simp [go_sem,ByteArray.toList_eq,e]
 unfold execOp
 simp only [ho,hx,hy,Sem.run_bind,h1,h2,Result.andThen_ok,Sem.run_pure]
theorem tru_take {b:Byt} {i:Nat} {u:UInt8} (h:b[i]? = some u):tru (b.take (i+1))=(tru (b.take i) || u != 0):=by
 unfold tru
 rw [List.take_add_one,h,List.any_append]
 simp
theorem tru_pre {b:Byt} {i:Nat} (h:tru (b.take i)=true):tru b=true:=by
 unfold tru at h ⊢
 rw [← List.take_append_drop i b,List.any_append,h]; rfl
theorem truth_any (w:World) (v:Value) (b:Byt) (hv:BytR (rdW w) v b):Calls Tryz.prog 167 #[v] w (Gets w (.bool (tru b))):=by
 obtain ⟨A,n,cp,rfl,h2,h3,h4,h5⟩:=hv
 refine Sy.enter (args:=[.slice A n cp]) Tryz.func167 rfl kL ?_
 have hmx:cp<9223372036854775808:=by simp only [maxLen] at h4; omega
 refine sC ?_
 refine sP (.bool false) ?_
 refine sG<|Sy.seq<|sC ?_
 refine sp rfl<|sP (.int .i64 (n:Int))<|sP (.int .i64 0) ?_
 refine sG<|Sy.block ?_
 refine Sy.loopT (Y:=Unit) n (λi _=>[(5,.slice A n cp),(6,.int .i64 (n:Int)),(7,.int .i64 (i:Int))]) (λ_ _=>[]) (λi _=>tru (b.take i)=false) () rfl (all_cons kR (all_cons kR (all_cons kR all_nil))) (λ_ h=>h) (λi _ hi hy=>?_)
 refine sC ?_
 obtain ⟨b2,hb2⟩:∃ t_:Bool,t_=decide (i<n):=⟨_,rfl⟩
 refine sS (.bool b2) (Quiet.pure (exec_int .lss _ _ _ .i64 _ _ _ rfl rfl rfl (int_lss _ _ _ _ _ (by rw [hb2]; exact decide_eq_decide.2 (by omega))))) ?_
 refine sG<|Sy.seq ?_
 cases b2
 case' false =>
  have l2:¬ i<n:=of_decide_eq_false hb2.symm
  obtain rfl:i=n:=by omega
  rw [List.take_of_length_le (by omega)] at hy
  refine sU<|Sy.exit<|Sy.then_exit<|Sy.then_exit<|Sy.in_exit<|Sy.then_<|sC ?_
  refine sP (.bool false) ?_
  refine sG<|Sy.ret ?_
  rw [hy]
  exact rV (.bool false) rfl
 have l2:i<n:=of_decide_eq_true hb2.symm
 obtain ⟨u,hu⟩:∃ u,b[i]? = some u:=⟨_,List.getElem?_eq_getElem (by omega)⟩
 obtain ⟨g,o,rfl,hq⟩:=h5 (by intro e; rw [e] at hu; cases hu)
 have hu2:=u.toNat_lt
 refine sT<|Sy.skip<|Sy.then_<|Sy.seq<|Sy.block<|sC ?_
 refine sS (.pointer (some ⟨g,o+i*1,none⟩)) (Quiet.pure (exec_at 29 5 _ _ g o n cp i 1 .i64 rfl rfl rfl Tryz.underlying29 kF l2))<|sS (bv u) (Quiet.thereOne g (o+i*1) 5 _ _ rfl kR (hq i u hu).1 _ (by rw [Nat.mul_one]; exact (hq i u hu).2) Tryz.underlying5 rfl)<|sp rfl ?_
 refine sG<|sC ?_
 obtain ⟨b3,hb3⟩:∃ t_:Bool,t_=decide (u.toNat≠0):=⟨_,rfl⟩
 refine sp rfl<|sS (.bool b3) (Quiet.pure (exec_int .neq _ _ _ .u8 _ _ _ rfl rfl rfl (int_neq _ _ _ _ _ (by rw [hb3]; exact decide_eq_decide.2 (by omega))))) ?_
 refine sG ?_
 have e3:b3=(u != 0):=by
  rw [hb3]
  by_cases e:u=0
  ·subst e; rfl
  ·have:u.toNat≠0:=λh=>e (by rw [← UInt8.toNat_inj]; exact h)
   simp [e,this]
 have htk:=tru_take hu
 rw [hy,Bool.false_or, ← e3] at htk
 cases b3
 case' true =>
  refine sT<|sC ?_
  refine sP (.bool true) ?_
  refine sG<|Sy.ret<|Sy.in_ret<|Sy.then_ret<|Sy.then_ret<|Sy.in_ret<|Sy.then_ret ?_
  rw [tru_pre htk]
  exact rV (.bool true) rfl
 refine sU<|Sy.skip<|Sy.in_<|Sy.then_<|Sy.region ?_
 refine sS (.int .i64 ((i+1:Nat):Int)) (Quiet.pure (exec_int .add _ _ _ .i64 _ _ _ rfl rfl rfl (int_add _ _ _ _ _ ((wrap_i64 (by omega) (by omega)).trans (by omega)))))<|sp rfl ?_
 refine Sy.nil ?_
 exact Sy.againT () l2 htk (all_cons kR (all_cons kR (all_cons kR all_nil))) (λw h=>h)
theorem numb_any (w:World) (v:Value) (b:Byt) (h8:b.length≤8) (hv:BytR (rdW w) v b):Calls Tryz.prog 285 #[v] w (Gets w (.int .u64 ((said b:Nat):Int))):=by
 obtain ⟨A,n,cp,rfl,h2,h3,h4,h5⟩:=hv
 refine Sy.enter (args:=[.slice A n cp]) Tryz.func285 rfl kL ?_
 have hmx:cp<9223372036854775808:=by simp only [maxLen] at h4; omega
 refine sC ?_
 refine sP (.int .u64 0) ?_
 refine sA ?_
 refine sP (.int .u64 0) ?_
 refine sG<|Sy.seq<|sC ?_
 refine sp rfl<|sP (.int .i64 (n:Int))<|sP (.int .i64 0) ?_
 refine sG<|Sy.block ?_
 refine Sy.loopT (Y:=Nat) n (λi a=>[(3,.int .u64 (a:Int)),(6,.slice A n cp),(7,.int .i64 (n:Int)),(8,.int .i64 (i:Int))]) (λ_ _=>[]) (λi a=>a=said (b.take i)) 0 (by rw [List.take_zero]; rfl) (all_cons kR (all_cons kR (all_cons kR (all_cons kR all_nil)))) (λ_ h=>h) (λi a hi hy=>?_)
 refine sC ?_
 obtain ⟨b2,hb2⟩:∃ t_:Bool,t_=decide (i<n):=⟨_,rfl⟩
 refine sS (.bool b2) (Quiet.pure (exec_int .lss _ _ _ .i64 _ _ _ rfl rfl rfl (int_lss _ _ _ _ _ (by rw [hb2]; exact decide_eq_decide.2 (by omega))))) ?_
 refine sG<|Sy.seq ?_
 cases b2
 case' false =>
  have l2:¬ i<n:=of_decide_eq_false hb2.symm
  obtain rfl:i=n:=by omega
  rw [List.take_of_length_le (by omega)] at hy
  subst hy
  refine sU<|Sy.exit<|Sy.then_exit<|Sy.then_exit<|Sy.in_exit<|Sy.then_<|sC ?_
  refine sp rfl<|sp rfl ?_
  refine sG<|Sy.ret ?_
  exact rV (.int .u64 ((said b:Nat):Int)) rfl
 have l2:i<n:=of_decide_eq_true hb2.symm
 obtain ⟨u,hu⟩:∃ u,b[i]? = some u:=⟨_,List.getElem?_eq_getElem (by omega)⟩
 obtain ⟨g,o,rfl,hq⟩:=h5 (by intro e; rw [e] at hu; cases hu)
 have ha:a<72057594037927936:=by rw [hy]; exact said_lt8 b i (by omega)
 have hu2:=u.toNat_lt
 refine sT<|Sy.skip<|Sy.then_<|Sy.seq<|Sy.block<|sC ?_
 refine sS (.pointer (some ⟨g,o+i*1,none⟩)) (Quiet.pure (exec_at 29 5 _ _ g o n cp i 1 .i64 rfl rfl rfl Tryz.underlying29 kF l2))<|sS (bv u) (Quiet.thereOne g (o+i*1) 5 _ _ rfl kR (hq i u hu).1 _ (by rw [Nat.mul_one]; exact (hq i u hu).2) Tryz.underlying5 rfl)<|sp rfl ?_
 refine sG<|Sy.region ?_
 refine sp rfl<|sS (.int .u64 ((a*256:Nat):Int)) (Quiet.pure (exec_int .shl _ _ _ .u64 _ _ _ rfl rfl rfl (int_shl8u _ a ha)))<|sp rfl<|sS (.int .u64 ((u.toNat:Nat):Int)) (Quiet.pure (λw=>conv_86 w _ _ _ u rfl rfl))<|sS (.int .u64 ((256*a+u.toNat:Nat):Int)) (Quiet.pure (exec_int .or _ _ _ .u64 _ _ _ rfl rfl rfl (int_or8 _ a _ ha hu2)))<|sp rfl ?_
 refine Sy.nil<|Sy.in_<|Sy.then_<|Sy.region ?_
 refine sS (.int .i64 ((i+1:Nat):Int)) (Quiet.pure (exec_int .add _ _ _ .i64 _ _ _ rfl rfl rfl (int_add _ _ _ _ _ ((wrap_i64 (by omega) (by omega)).trans (by omega)))))<|sp rfl ?_
 refine Sy.nil ?_
 exact Sy.againT (256*a+u.toNat) l2 (by show 256*a+u.toNat=_; rw [hy,said_take b i u hu]) (all_cons kR (all_cons kR (all_cons kR (all_cons kR all_nil)))) (λw h=>h)
theorem bytes_equal (w:World) (v u:Value) (a b:Byt) (hv:BytR (rdW w) v a) (hu:BytR (rdW w) u b):Calls Tryz.prog 283 #[v,u] w (Gets w (.bool (decide (a=b)))):=by
 refine Sy.enter (args:=[v,u]) Tryz.func283 rfl kL ?_
 refine sC ?_
 refine sP (.bool false) ?_
 refine sA ?_
 refine sp rfl<|sS (.string ⟨a.toArray⟩) (strC _ rfl rfl (λw' hw=>hv.at hw))<|sp rfl<|sS (.string ⟨b.toArray⟩) (strC _ rfl rfl (λw' hw=>hu.at hw))<|sS (.bool (decide (a=b))) (Quiet.pure (λw=>eql_str w _ _ _ _ a b rfl rfl rfl))<|sp rfl ?_
 refine sG<|Sy.ret ?_
 exact rV (.bool (decide (a=b))) rfl
end Pg
end
section
namespace Pg
open Go.RowKit Sy
set_option maxRecDepth 100000
set_option maxHeartbeats 4000000
open Wr
def mcs (v:Value) (m:Byt) (h:Nat) (r:Value) (k:Nat):List Value:=v::(m.map bv++[.int .u64 ((h:Nat):Int),r,.int .i64 ((k:Nat):Int)])
section
variable {v r:Value} {m:Byt} {h k:Nat} (hm:m.length=32)
include hm
theorem mcs_len:(mcs v m h r k).length=36:=by simp [mcs,hm]
theorem mcs_h:((mcs v m h r k).toArray)[33]? = some (.int .u64 ((h:Nat):Int)):=get_mid (v::m.map bv) [r,.int .i64 ((k:Nat):Int)] _ 33 (by simp [hm])
theorem mcs_r:((mcs v m h r k).toArray)[34]? = some r:=by
 have:=get_mid (v::(m.map bv++[.int .u64 ((h:Nat):Int)])) [.int .i64 ((k:Nat):Int)] r 34 (by simp [hm])
 rw [← this]; simp [mcs]
theorem mcs_k:((mcs v m h r k).toArray)[35]? = some (.int .i64 ((k:Nat):Int)):=by
 have:=get_mid (v::(m.map bv++[.int .u64 ((h:Nat):Int),r])) [] (.int .i64 ((k:Nat):Int)) 35 (by simp [hm])
 rw [← this]; simp [mcs]
theorem mcs_setr (r':Value):((mcs v m h r k).toArray).setIfInBounds 34 r'=(mcs v m h r' k).toArray:=by
 have:=set_mid (v::(m.map bv++[.int .u64 ((h:Nat):Int)])) [.int .i64 ((k:Nat):Int)] r r' 34 (by simp [hm])
 simp [mcs] at this ⊢
 exact this
theorem mcs_setk (k':Nat):((mcs v m h r k).toArray).setIfInBounds 35 (.int .i64 ((k':Nat):Int))=(mcs v m h r k').toArray:=by
 have:=set_mid (v::(m.map bv++[.int .u64 ((h:Nat):Int),r])) [] (.int .i64 ((k:Nat):Int)) (.int .i64 ((k':Nat):Int)) 35 (by simp [hm])
 simp [mcs] at this ⊢
 exact this
end
abbrev MS (g:Nat) (s:Slc) (m:Byt) (h:Nat) (r:Value) (k:Nat) (T:Blocks):Blocks:=[(g,190,(mcs s.v m h r k).toArray)]++(s.bl++T)
def Arg (C D:Rdr) (la:Value) (l:List (Value×Byt)):Prop:=∃ A n cp,la=.slice A n cp∧l.length=n∧n≤cp∧cp≤maxLen∧(l≠[]→∃ g o,A=some ⟨g,o,none⟩∧∀ j z,l[j]? = some z→D g (o+j) z.1∧BytR C z.1 z.2)
structure StkY (C:Rdr) (y:Slc) (zs:List (Value×Byt)):Prop where
 row:y.Is 29 1 (zs.map λz=>[z.1])
 byt:∀ z∈zs,BytR C z.1 z.2
 sm:∀ z∈zs,z.2.length≤256
theorem StkY.nil (C:Rdr):StkY C nilS []:=⟨Slc.Is.nil _ _,λ_ h=>(by cases h),λ_ h=>(by cases h)⟩
theorem StkY.le {C D:Rdr} {y:Slc} {zs:List (Value×Byt)} (h:StkY C y zs) (hl:Le C D):StkY D y zs:=⟨h.row,λz hz=>(h.byt z hz).le hl,h.sm⟩
def EfR (E:Env) (x:Opn) (w0:Base) (g:Nat) (s:Slc) (m:Byt) (r:Value) (T:Blocks) (l:List Byt) (v:Value) (M:Blocks):Prop :=
 ∃ y N zs,v=.tuple #[y.v,.int .i64 (((does E x l).1:Nat):Int)]∧M=MS g s m E.h r (skp x l) (y.bl++(T++N))∧StkY (rdC w0 (T++N)) y zs∧zs.map (·.2)=(does E x l).2
def EfC (Tb:World→Prop) (E:Env) (m:Byt) (x:Opn) (fn:FuncId):Prop:=∀ (w0:Base) (g:Nat) (s:Slc) (r:Value) (T:Blocks) (la:Value) (l:List (Value×Byt)),Tb w0.world→okO x→(∀ z∈l,z.2.length≤256)→BytR (rdC w0 T) r x.2→l.length=needs x→Arg (rdC w0 T) (rdC w0 (s.bl++T)) la l →
 ∀ w,St w0 w (MS g s m E.h r 0 T)→Calls Tryz.prog fn #[ptr g,la] w (Turns w0 (EfR E x w0 g s m r T (l.map (·.2))))
theorem len2 {α:Type} {l:List α} (h:l.length=2):∃ a b,l=[a,b]:=by
 match l,h with
 | [a,b],_=>exact ⟨a,b,rfl⟩
theorem skp_yes {x:Opn} {z:Byt} (hx:x.1.toNat=106) (hb:tru z=true):skp x [z]=0:=by
 unfold skp
 rw [if_neg]
 rintro (h | ⟨_,h⟩)
 ·omega
 ·have h2:tru z=false:=h
  rw [hb] at h2; cases h2
theorem does_push {E:Env} {x:Opn} (l:List Byt) (h:x.1.toNat≤64):does E x l=(0,[x.2]):=by
 unfold does
 dsimp only
 split <;> first | omega | rfl
theorem skp_no {x:Opn} (l:List Byt) (h1:¬ x.1.toNat=107) (h2:¬ x.1.toNat=106):skp x l=0:=by unfold skp; rw [if_neg (by rintro (h | h); exact h1 h; exact h2 h.1)]
theorem EfR.none {E:Env} {x:Opn} {w0:Base} {g:Nat} {s:Slc} {m:Byt} {r:Value} {T:Blocks} {l:List Byt} {e k:Nat} (hd:does E x l=(e,[])) (hk:skp x l=k):EfR E x w0 g s m r T l (.tuple #[.slice none 0 0,.int .i64 ((e:Nat):Int)]) (MS g s m E.h r k T) :=
 ⟨nilS,[],[],by rw [hd]; rfl,by rw [hk]; show _=[_]++(s.bl++([]++(T++[]))); rw [List.append_nil,List.nil_append],StkY.nil _,by rw [hd]; rfl⟩
theorem StkY.one {C:Rdr} {g2:Nat} {v:Value} {b:Byt} (hb:BytR C v b) (hl:b.length≤256):StkY C ⟨.slice (some ⟨g2,0,Option.none⟩) 1 1,[(g2,29,#[v])]⟩ [(v,b)] :=
 ⟨Slc.Is.mk' (cs:=[v]) (λx hx=>by rw [List.mem_singleton.1 hx]; rfl) (λx hx u hu=>by rw [List.mem_singleton.1 hx] at hu; rw [List.mem_singleton.1 hu]; exact hb.cells.2) rfl rfl rfl (Nat.le_refl _) (by decide),λz hz=>by rw [List.mem_singleton.1 hz]; exact hb,λz hz=>by rw [List.mem_singleton.1 hz]; exact hl⟩
theorem StkY.two {C:Rdr} {g2:Nat} {v u:Value} {a b:Byt} (ha:BytR C v a) (hb:BytR C u b) (hla:a.length≤256) (hlb:b.length≤256):StkY C ⟨.slice (some ⟨g2,0,Option.none⟩) 2 2,[(g2,29,#[v,u])]⟩ [(v,a),(u,b)]:=by
 refine ⟨Slc.Is.mk' (cs:=[v,u]) (λx hx=>?_) (λx hx t ht=>?_) rfl rfl rfl (Nat.le_refl _) (by decide),λz hz=>?_,λz hz=>?_⟩
 ·rcases List.mem_cons.1 hx with rfl | hx
  ·rfl
  ·rw [List.mem_singleton.1 hx]; rfl
 ·rcases List.mem_cons.1 hx with rfl | hx
  ·rw [List.mem_singleton.1 ht]; exact ha.cells.2
  ·rw [List.mem_singleton.1 hx] at ht
   rw [List.mem_singleton.1 ht]; exact hb.cells.2
 ·rcases List.mem_cons.1 hz with rfl | hz
  ·exact ha
  ·rw [List.mem_singleton.1 hz]; exact hb
 ·rcases List.mem_cons.1 hz with rfl | hz
  ·exact hla
  ·rw [List.mem_singleton.1 hz]; exact hlb
theorem byt_blk {C:Rdr} {g n:Nat} {b:Byt} (hC:∀ j v,((b.map bv).toArray)[j]? = some v→C g j v) (hn:b.length=n) (hl:n≤1000000):BytR C (.slice (some ⟨g,0,Option.none⟩) n n) b :=
 ⟨_,_,_,rfl,hn,Nat.le_refl _,by simp only [maxLen]; omega,λ_=>⟨g,0,rfl,λj u hu=>by rw [Nat.zero_add]; exact hC j _ (by rw [List.getElem?_toArray,List.getElem?_map,hu]; rfl)⟩⟩
def RsR (L:Blocks) (b:Bool) (v:Value) (M:Blocks):Prop:=∃ g1 g2 n,v=.tuple #[.slice (some ⟨g2,0,Option.none⟩) 1 1,.int .i64 0]∧M=L++[(g1,5,((rS b).map bv).toArray),(g2,29,#[.slice (some ⟨g1,0,Option.none⟩) n n])]∧(rS b).length=n
theorem RsR.ef {E:Env} {x:Opn} {w0:Base} {g g1 g2 n:Nat} {s:Slc} {m:Byt} {r:Value} {T:Blocks} {l:List Byt} {b:Bool} (hd:does E x l=(0,[rS b])) (hk:skp x l=0) (hn:(rS b).length=n):EfR E x w0 g s m r T l (.tuple #[.slice (some ⟨g2,0,Option.none⟩) 1 1,.int .i64 0]) (MS g s m E.h r 0 ([(g2,29,#[.slice (some ⟨g1,0,Option.none⟩) n n])]++(T++[(g1,5,((rS b).map bv).toArray)]))) :=
 ⟨⟨.slice (some ⟨g2,0,Option.none⟩) 1 1,[(g2,29,#[.slice (some ⟨g1,0,Option.none⟩) n n])]⟩,[(g1,5,((rS b).map bv).toArray)],[(.slice (some ⟨g1,0,Option.none⟩) n n,rS b)],by rw [hd]; rfl,by rw [hk],
  StkY.one (byt_blk (λj v hv=>.inr ⟨_,_,List.mem_append_right _ (List.mem_singleton.2 rfl),hv⟩) hn (by rw [← hn]; cases b <;> decide)) (by cases b <;> decide),by rw [hd]; rfl⟩
theorem RsR.st {w0:Base} {w:World} {g g1 g2 n h k:Nat} {s:Slc} {m:Byt} {r:Value} {T:Blocks} {b:Bool} (hw:St w0 w (MS g s m h r k T++[(g1,5,((rS b).map bv).toArray),(g2,29,#[.slice (some ⟨g1,0,Option.none⟩) n n])])):St w0 w (MS g s m h r k ([(g2,29,#[.slice (some ⟨g1,0,Option.none⟩) n n])]++(T++[(g1,5,((rS b).map bv).toArray)]))):=hw.perm (Sy.flat_perm (ls:=[[(g,190,(mcs s.v m h r k).toArray)],s.bl,T,[(g1,5,((rS b).map bv).toArray)],[(g2,29,#[.slice (some ⟨g1,0,Option.none⟩) n n])]]) (ms:=[[(g,190,(mcs s.v m h r k).toArray)],s.bl,[(g2,29,#[.slice (some ⟨g1,0,Option.none⟩) n n])],T,[(g1,5,((rS b).map bv).toArray)]]) [0,1,4,2,3] kR rfl (by simp) (by simp))
theorem result_any (w0:Base) (L:Blocks) (b:Bool) (w:World) (hw:St w0 w L):Calls Tryz.prog 282 #[.bool b] w (Turns w0 (RsR L b)):=by
 refine Sy.enterT (args:=[.bool b]) hw Tryz.func282 rfl kL ?_
 refine sC ?_
 refine sP (.slice none 0 0)<|sP (.int .i64 0) ?_
 refine sG<|Sy.seq<|sC ?_
 refine sp rfl ?_
 refine sG ?_
 cases b
 case' true =>
  refine sT<|sC ?_
  refine Sy.make kR 5 #[.int .u8 1] (λg=>.slice (some ⟨g,0,Option.none⟩) 1 1) kF (λg1=>?_)
  refine Sy.make kR 29 #[.slice (some ⟨g1,0,Option.none⟩) 1 1] (λg=>.slice (some ⟨g,0,Option.none⟩) 1 1) kF (λg2=>?_)
  refine sp rfl<|sP (.int .i64 0) ?_
  refine sG<|Sy.ret<|Sy.then_ret ?_
  exact Sy.retT2 _ rfl (.inl (show _=some (.slice (some ⟨g2,0,Option.none⟩) 1 1) by kernel_rfl)) (.inl (show _=some (.int .i64 0) by kernel_rfl)) (λ_ h=>h) ⟨g1,g2,1,rfl,by rw [List.append_assoc]; rfl,rfl⟩
 refine sU<|Sy.skip<|Sy.then_<|sC ?_
 refine Sy.make kR 5 #[] (λg=>.slice (some ⟨g,0,Option.none⟩) 0 0) kF (λg1=>?_)
 refine Sy.make kR 29 #[.slice (some ⟨g1,0,Option.none⟩) 0 0] (λg=>.slice (some ⟨g,0,Option.none⟩) 1 1) kF (λg2=>?_)
 refine sp rfl<|sP (.int .i64 0) ?_
 refine sG<|Sy.ret ?_
 exact Sy.retT2 _ rfl (.inl (show _=some (.slice (some ⟨g2,0,Option.none⟩) 1 1) by kernel_rfl)) (.inl (show _=some (.int .i64 0) by kernel_rfl)) (λ_ h=>h) ⟨g1,g2,0,rfl,by rw [List.append_assoc]; rfl,rfl⟩
end Pg
end
end Go.Proofs.YtgggdbjakcpanaaGreatDoor
