/-
  Texts of ours, put together: ScRefN, ScFold, ScRefAdd, ScRefMul, ScNum, CrvO, CrvV, RefNumT, WirGQ, WirGT, WirGU, WirHD, WirAA, WireWitnessL.
-/
import Derived.Test.YtgggdbjakcpanaaGreatDoorWX5
set_option linter.unusedVariables false
set_option linter.unusedSimpArgs false
namespace Go.Proofs.YtgggdbjakcpanaaGreatDoor
section
namespace Sc
open Go.RowKit Go.Lib
def modV:Value:=.agg #[.int .u64 13822214165235122497,.int .u64 13451932020343611451,.int .u64 18446744073709551614,.int .u64 18446744073709551615,.int .u64 4624529908474429119,.int .u64 4994812053365940164,.int .u64 1]
theorem fv_P:fv 115792089237316195423570985008687907852837564279074904382605163141518161494337=.agg #[.int .u64 13822214165235122497,.int .u64 13451932020343611451,.int .u64 18446744073709551614,.int .u64 18446744073709551615]:=rfl
theorem refN_any (w:World):Calls Tryz.prog 274 #[] w λe w'=>e=.returned modV∧Below w.heap.size w w':=by
 go_enter Tryz.func274,Tryz.ntmps274
 go_wp2
 exact bodyPost_ret (results_cell_row rfl _ _ w.heap.size _ _ (0,0) _ rfl (heap_alloc_new w _) Tryz.underlying397 rfl (by kernel_rfl)) rfl ⟨rfl,(Below.refl _ _).alloc (Nat.le_refl _) _⟩
theorem refOf_any (w:World) (n:Nat) (hn:n<(2^256)):Calls Tryz.prog 275 #[fv n] w λe w'=>e=.returned (fv n)∧Below w.heap.size w w':=by
 obtain ⟨a,b,c,d,fn⟩:=words_fv n hn
 rw [fn]
 clear fn
 go_enter Tryz.func275,Tryz.ntmps275
 go_wp2
 exact bodyPost_ret (results_cell_row rfl _ _ (w.heap.size+1) _ _ (0,0) _ rfl (heap_alloc2_new w _ _) Tryz.underlying373 rfl (by kernel_rfl)) rfl ⟨rfl,below_alloc2 w _ _⟩
theorem refSc_any (w:World) (n:Nat) (hn:n<(2^256)):Calls Tryz.prog 272 #[fv n] w λe w'=>e=.returned (fv n)∧Below w.heap.size w w':=by
 obtain ⟨a,b,c,d,fn⟩:=words_fv n hn
 rw [fn]
 clear fn
 go_enter Tryz.func272,Tryz.ntmps272
 go_wp2
 exact bodyPost_ret (results_cell_row rfl _ _ (w.heap.size+1) _ _ (0,0) _ rfl (heap_alloc2_new w _ _) Tryz.underlying76 rfl (by kernel_rfl)) rfl ⟨rfl,below_alloc2 w _ _⟩
set_option maxHeartbeats 2000000 in
set_option maxRecDepth 100000 in
theorem normR_any (w:World) (x:Nat) (hx:x<(2^256)):Calls Tryz.prog 273 #[modV,fv x] w λe w'=>e=.returned (fv (x%pM))∧Below w.heap.size w w':=by
 obtain ⟨z,hz⟩:∃ z,z=x%pM:=⟨_,rfl⟩
 obtain ⟨p,hp⟩:∃ p,p=115792089237316195423570985008687907852837564279074904382605163141518161494337:=⟨_,rfl⟩
 have hpl:p<(2^256):=by omega
 obtain ⟨b,hb⟩:∃ b,b=decide (x<p):=⟨_,rfl⟩
 have cb:∀ w,Calls Tryz.prog 303 #[fv x,fv p] w λe w'=>e=.returned (.bool b)∧Below w.heap.size w w':=by
  intro w; rw [hb]; exact below_at w x p rfl rfl hx hpl
 have t1:b=true→z=x:=λh=>by
  rw [hb] at h
  rw [hz]
  exact Nat.mod_eq_of_lt (by rw [pM_eq, ← hp]; simpa using h)
 have cm:b=false→∀ w,Calls Tryz.prog 304 #[fv x,fv p] w λe w'=>e=.returned (fv z)∧Below w.heap.size w w':=λh w=>by
  rw [hb] at h
  have hle:¬ x<p:=by simpa using h
  have hzx:z+p=x:=by rw [hz,red_once x hx,if_neg (by omega)]; omega
  exact minusR_at w x p z 0 rfl rfl hx hpl (by omega) (by omega)
 have hpc:fv p=.agg #[.int .u64 13822214165235122497,.int .u64 13451932020343611451,.int .u64 18446744073709551614,.int .u64 18446744073709551615]:=by rw [hp]; exact fv_P
 obtain ⟨x0,x1,x2,x3,fx⟩:=words_fv x hx
 have FX:=Lib.hid fx
 have FP:=Lib.hid hpc
 rw [fx, ← hz]
 unfold modV
 clear fx hpc hx hz hp hpl hb
 go_enter Tryz.func273,Tryz.ntmps273
 go_wp2_with (first | ((with_reducible refine here_load (d:=some 6) ?_); refine wpList_load_fv rfl _ _ rfl (w.heap.size+1) rfl (x) _ _ _ ((blk_new2 w _ _ _).alloc _) (FX.out) Tryz.underlying373 rfl (by kernel_rfl) ?_) | ((with_reducible refine here_load (d:=some 8) ?_); refine wpList_load_part rfl _ _ rfl w.heap.size rfl p [.int .u64 13822214165235122497,.int .u64 13451932020343611451,.int .u64 18446744073709551614,.int .u64 18446744073709551615] _ (mod_range (((Blk.new w _ _).alloc _).alloc _)) FP.out Tryz.underlying373 rfl (by kernel_rfl) ?_))
 refine (cb _).mono ?_
 rintro e w1 ⟨rfl,k1⟩
 have BM:Blk w1 w.heap.size 397 _:=Gr.blk k1 (((Blk.new w _ _).alloc _).alloc _)
 have BX:Blk w1 (w.heap.size+1) 373 _:=Gr.blk k1 ((blk_new2 w _ _ _).alloc _)
 have BR:Blk w1 (w.heap.size+2) 373 _:=Gr.blk k1 (blk_new3 w _ _ _ _)
 have hB:=Below.gr (below_alloc3 w _ _ _) k1
 clear k1 cb
 cases b
 ·have cmm:=cm rfl
  clear cm t1
  go_wp2_with (first | ((with_reducible refine here_load (d:=some 12) ?_); refine wpList_load_fv rfl _ _ rfl (w.heap.size+1) rfl (x) _ _ _ (BX) (FX.out) Tryz.underlying373 rfl (by kernel_rfl) ?_) | ((with_reducible refine here_load (d:=some 14) ?_); refine wpList_load_part rfl _ _ rfl w.heap.size rfl p [.int .u64 13822214165235122497,.int .u64 13451932020343611451,.int .u64 18446744073709551614,.int .u64 18446744073709551615] _ (mod_range (BM)) FP.out Tryz.underlying373 rfl (by kernel_rfl) ?_))
  refine (cmm _).mono ?_
  rintro e w2 ⟨rfl,k2⟩
  have BR2:=Gr.blk k2 BR
  have hB2:=Below.gr hB k2
  clear k2 cmm
  go_wp2_with (first | ((with_reducible refine here_store ?_); refine wpList_store_blk rfl _ _ _ rfl (w.heap.size+2) (fcs (z)) rfl rfl _ _ (BR2) (by kernel_rfl) (by rfl) (fcs_one _) ?_; intro w9 hL9 hB9 hK9))
  exact bodyPost_ret (results_cell_row rfl _ _ (w.heap.size+2) _ _ (0,0) _ rfl hL9 Tryz.underlying373 rfl (by kernel_rfl)) rfl ⟨rfl,hB2.trans (hB9 _ (by omega))⟩
 ·have HZX:=Lib.hid (t1 rfl)
  clear t1 cm
  go_wp2_with (first | ((with_reducible refine here_load (d:=some 11) ?_); refine wpList_load_fv rfl _ _ rfl (w.heap.size+1) rfl (x) _ _ _ (BX) (FX.out) Tryz.underlying373 rfl (by kernel_rfl) ?_) | ((with_reducible refine here_store ?_); refine wpList_store_blk rfl _ _ _ rfl (w.heap.size+2) (fcs (x)) rfl rfl _ _ (BR) (by kernel_rfl) (by rfl) (fcs_one _) ?_; intro w9 hL9 hB9 hK9))
  exact bodyPost_ret (results_cell_row rfl _ _ (w.heap.size+2) _ _ (0,0) _ rfl hL9 Tryz.underlying373 rfl (by kernel_rfl)) rfl ⟨by rw [HZX.out]; rfl,hB.trans (hB9 _ (by omega))⟩
end Sc
end
section
namespace Sc
open Go.RowKit Go.Lib
end Sc
end
section
namespace Sc
open Go.RowKit Go.Lib
section
variable {P:Program} {ops:Array Oper}
end
end Sc
end
section
namespace Sc
open Go.RowKit Go.Lib
end Sc
end
section
namespace Nt
end Nt
end
section
namespace Cu
open Go.RowKit Sy
set_option maxRecDepth 100000
set_option maxHeartbeats 4000000
end Cu
end
section
namespace Cu
open Go.RowKit Sy
set_option maxRecDepth 100000
set_option maxHeartbeats 4000000
def modN:Array Value:=#[.int .u64 13822214165235122497,.int .u64 13451932020343611451,.int .u64 18446744073709551614,.int .u64 18446744073709551615,.int .u64 4624529908474429119,.int .u64 4994812053365940164,.int .u64 1]
end Cu
end
section
section
open Go.RowKit Go.Lib
end
end
section
namespace Cu
open Go.RowKit Sy
set_option maxRecDepth 100000
set_option maxHeartbeats 4000000
theorem bytesN2 (w:World) (x:Nat) (hx:x<K4):Calls Tryz.prog 239 #[fv x] w (GetsN w (λvq Mq=>∃ (g:Nat) (sp:List Value) (cap:Nat),vq=.slice (some ⟨g,0,none⟩) 32 cap∧(32≤cap∧cap≤9223372036854775807)∧Mq=[(g,5,((bytesS x).map bv++sp).toArray)])):=by
 refine (bytesR_any w x hx).mono ?_
 rintro e w' ⟨g,cap,rfl,ho,hl,hb⟩
 rcases ho.2 with ⟨h0,_⟩ | ⟨g',cap',cur,hv,hg,hk,q3,q4,q5,q6⟩
 ·cases h0
 ·cases hv
  have h32:=bytesS_length x
  rw [bytesS_length] at q6
  have hc:cur=((bytesS x).map bv++cur.toList.drop 32).toArray:=by
   rw [Nat.mul_one] at q6
   rw [← q6,List.take_append_drop]
  refine ⟨_,[(g,5,cur)],rfl,⟨g,cur.toList.drop 32,cap,rfl,⟨by omega,by simp only [maxLen] at q4; omega⟩,by rw [← hc]⟩,hb,λg1 t1 cs1 hm=>?_,by simp⟩
  simp only [List.mem_singleton,Prod.mk.injEq] at hm
  obtain ⟨rfl,rfl,rfl⟩:=hm
  exact ⟨by omega,hk⟩
theorem nsc_any (w:World) (a:Nat) (ha:a<K4):Calls Tryz.prog 238 #[fv a] w (Gets w (fv (a%Sc.pM))):=by
 refine Sy.enter (args:=[fv a]) Tryz.func238 rfl kL ?_
 refine sC ?_
 refine sM 76 (fcs a) (λg0=>?_)
 refine sM 76 (fcs 0) (λg1=>?_)
 refine sH (λj=>j == 5) ?_
 refine sD 0 rfl (.agg modN) (qF 274 #[] (Sc.refN_any))<|sD 1 rfl (fv a) (qL 0 g0 0 4 76 76 (fcs a) rfl Tryz.underlying76)<|sD 2 rfl (fv a) (qF 275 #[fv a] (λw=>Sc.refOf_any w a (by first | assumption | exact Sc.mod_lt _ | exact lt4 _ | exact valB_lt32 _ (by first | assumption | exact bytesS_length _) | decide +kernel)))<|sD 3 rfl (fv (a%Sc.pM)) (qF 273 #[.agg modN,fv a] (λw=>Sc.normR_any w a (by first | assumption | exact Sc.mod_lt _ | exact lt4 _ | exact valB_lt32 _ (by first | assumption | exact bytesS_length _) | decide +kernel)))<|sD 4 rfl (fv (a%Sc.pM)) (qF 272 #[fv (a%Sc.pM)] (λw=>Sc.refSc_any w (a%Sc.pM) (by first | assumption | exact Sc.mod_lt _ | exact lt4 _ | exact valB_lt32 _ (by first | assumption | exact bytesS_length _) | decide +kernel)))<|sX 5 rfl 1 g1 76 (fcs 0) (fcs (a%Sc.pM)) (wS 0 76 (fcs (a%Sc.pM)) rfl) ?_
 refine sI ?_
 refine Sy.ret ?_
 exact rC (v:=fv (a%Sc.pM)) 76 g1 1 (fcs (a%Sc.pM)) rfl Tryz.underlying76
theorem bscN (w:World) (a:Nat) (ha:a<K4):Calls Tryz.prog 204 #[fv a] w (GetsN w (λvq Mq=>∃ (g:Nat) (sp:List Value) (cap:Nat),vq=.slice (some ⟨g,0,none⟩) 32 cap∧(32≤cap∧cap≤9223372036854775807)∧Mq=[(g,5,((bytesS (a%Sc.pM)).map bv++sp).toArray)])):=by
 refine Sy.enter (args:=[fv a]) Tryz.func204 rfl kL ?_
 refine sC ?_
 refine sM 76 (fcs a) (λg0=>?_)
 refine sP (.slice none 0 0) ?_
 refine sA ?_
 refine sS (fv a) (qL 0 g0 0 4 76 76 (fcs a) rfl Tryz.underlying76)<|sS (fv (a%Sc.pM)) (qF 238 #[fv a] (λw=>nsc_any w a (by first | assumption | exact Sc.mod_lt _ | exact lt4 _ | exact valB_lt32 _ (by first | assumption | exact bytesS_length _) | decide +kernel)))<|sS (fv (a%Sc.pM)) (qF 240 #[fv (a%Sc.pM)] (λw=>refOf_any w (a%Sc.pM) (by first | assumption | exact Sc.mod_lt _ | exact lt4 _ | exact valB_lt32 _ (by first | assumption | exact bytesS_length _) | decide +kernel))) ?_
 refine Sy.callN kR 239 #[fv (a%Sc.pM)] kF (λvq Mq=>∃ (g:Nat) (sp:List Value) (cap:Nat),vq=.slice (some ⟨g,0,none⟩) 32 cap∧(32≤cap∧cap≤9223372036854775807)∧Mq=[(g,5,((bytesS (a%Sc.pM)).map bv++sp).toArray)]) (λw _=>bytesN2 w (a%Sc.pM) (by first | assumption | exact Sc.mod_lt _ | exact lt4 _ | exact valB_lt32 _ (by first | assumption | exact bytesS_length _) | decide +kernel)) (λvq Mq hR0=>?_)
 obtain ⟨go1,spo1,cpo1,rfl,hcpo1,rfl⟩:=hR0
 refine sP (.slice (some ⟨go1,0,none⟩) 32 cpo1) ?_
 refine sG<|Sy.ret ?_
 exact retG 1 (go1,5,((bytesS (a%Sc.pM)).map bv++spo1).toArray) rfl (v:=.slice (some ⟨go1,0,none⟩) 32 cpo1) (.inl (show _=_ by kernel_rfl)) kR ⟨go1,spo1,cpo1,rfl,hcpo1,rfl⟩
end Cu
end
section
namespace Wr
open Go.RowKit Sy
set_option maxRecDepth 100000
set_option maxHeartbeats 4000000
theorem digWd (w0:Base) (gw:Nat) (bad:Bool) (s:Slc) (R:Blocks) (b:Byt) (x:Byt) (hx:x.length=32) (hb:BS s b) (hl:b.length+32≤70368744177000) (w:World) (hw:St w0 w (WB gw bad s R)) :
  Calls Tryz.prog 147 #[ptr gw,.agg (x.map bv).toArray] w (Turns w0 (Wd gw R true x 32 bad b)) :=
 (digW_any w0 gw bad s R b x hx hb (by omega) w hw).mono λe w' ⟨v,M,h1,⟨r,h2,h3⟩,h4⟩=>⟨v,M,h1,⟨r,bad,_,Wrote.raw x bad b (by omega),h2,h3⟩,h4⟩
theorem numWd (k:Nat) (hk:k≤8) (w0:Base) (gw:Nat) (bad:Bool) (s:Slc) (R:Blocks) (b:Byt) (n:Nat) (hn:n<18446744073709551616) (hb:BS s b) (hl:b.length+k≤70368744177000) (w:World) (hw:St w0 w (WB gw bad s R)) :
  Calls Tryz.prog 95 #[ptr gw,.int .u64 (n:Int),.int .i64 (k:Int)] w (Turns w0 (Wd gw R true (nb k n) k bad b)) :=
 (numW_any w0 gw bad s R b n k hn hk hb (by omega) w hw).mono λe w' ⟨v,M,h1,⟨r,h2,h3⟩,h4⟩=>⟨v,M,h1,⟨r,bad,_,Wrote.raw (nb k n) bad b (by rw [nb_len]; exact Nat.le_refl _),h2,h3⟩,h4⟩
theorem below_any (w:World) (n:Nat) (hn:n<Cu.K4):Calls Tryz.prog 203 #[fv n] w (Gets w (.bool (okSC n))):=by
 refine Sy.enter (args:=[fv n]) Tryz.func203 rfl kL ?_
 refine sC ?_
 refine sM 76 (fcs n) (λg1=>?_)
 refine sP (.bool false) ?_
 refine sH (λ_=>false) ?_
 refine sD 0 rfl (fv n) (qL 0 g1 0 4 76 76 (fcs n) rfl Tryz.underlying76)<|sD 1 rfl (fv (n%Sc.pM)) (qF 238 #[fv n] (λw=>Cu.nsc_any w n hn))<|sD 2 rfl (fv n) (qL 0 g1 0 4 76 76 (fcs n) rfl Tryz.underlying76)<|sv 3 rfl (.bool (okSC n)) (λw=>eqlSC w _ _ _ _ (n%Sc.pM) n rfl rfl rfl (Nat.lt_trans (Nat.mod_lt _ (by decide)) (by decide)) hn)<|sz 4 rfl rfl ?_
 refine sI ?_
 refine Sy.ret ?_
 exact rV (.bool (okSC n)) rfl
theorem none_any (w:World) (p:MPg) (A1 A2 A3:Option Addr) (n1 c1 n2 c2 n3 c3:Nat) (k1:p.tx.length=n1) (k2:p.path.length=n2) (k3:p.script.length=n3) (h0:p.header.length=32) :
  Calls Tryz.prog 158 #[.agg (cPG p (.slice A1 n1 c1) (.slice A2 n2 c2) (.slice A3 n3 c3)).toArray] w (Gets w (.bool (nulPG p))):=by
 obtain ⟨hd,tx,pl,mn,pa,sq⟩:=p
 dsimp only at k1 k2 k3 h0
 have m0:(hd.map bv).length=32:=by rw [List.length_map,h0]
 have hlen:(cPG ⟨hd,tx,pl,mn,pa,sq⟩ (.slice A1 n1 c1) (.slice A2 n2 c2) (.slice A3 n3 c3)).length=37:=by simp only [cPG,List.length_append,m0]; rfl
 have hnul:nulPG ⟨hd,tx,pl,mn,pa,sq⟩=(decide (hd=z32) && (decide (n1=0) && (decide (pl=0) && (decide (mn=0) && (decide (n2=0) && decide (n3=0)))))):=by unfold nulPG; dsimp only; rw [k1,k2,k3]
 refine Sy.enter (args:=[.agg (cPG ⟨hd,tx,pl,mn,pa,sq⟩ (.slice A1 n1 c1) (.slice A2 n2 c2) (.slice A3 n3 c3)).toArray]) Tryz.func158 rfl kL ?_
 refine sC ?_
 refine sM 81 (cPG ⟨hd,tx,pl,mn,pa,sq⟩ (.slice A1 n1 c1) (.slice A2 n2 c2) (.slice A3 n3 c3)).toArray (λg1=>?_) kR (λw=>run_boxR rfl rfl (by kernel_rfl) hlen w)
 refine sP (.bool false) ?_
 have X0:XAt (rdC (Base.of w) [(g1,81,(cPG ⟨hd,tx,pl,mn,pa,sq⟩ (.slice A1 n1 c1) (.slice A2 n2 c2) (.slice A3 n3 c3)).toArray)]) g1 0 (cPG ⟨hd,tx,pl,mn,pa,sq⟩ (.slice A1 n1 c1) (.slice A2 n2 c2) (.slice A3 n3 c3)):=λi u hu=>.inr ⟨_,_,List.mem_singleton.2 rfl,by rw [Nat.zero_add,List.getElem?_toArray]; exact hu⟩
 have X1:XAt (rdC (Base.of w) [(g1,81,(cPG ⟨hd,tx,pl,mn,pa,sq⟩ (.slice A1 n1 c1) (.slice A2 n2 c2) (.slice A3 n3 c3)).toArray)]) g1 32 ([.slice A1 n1 c1]++([.int .u32 (pl:Int)]++([.int .u32 (mn:Int)]++([.slice A2 n2 c2]++([.slice A3 n3 c3]))))):=X0.right m0
 have X2:XAt (rdC (Base.of w) [(g1,81,(cPG ⟨hd,tx,pl,mn,pa,sq⟩ (.slice A1 n1 c1) (.slice A2 n2 c2) (.slice A3 n3 c3)).toArray)]) g1 33 ([.int .u32 (pl:Int)]++([.int .u32 (mn:Int)]++([.slice A2 n2 c2]++([.slice A3 n3 c3])))):=X1.right (n:=1) rfl
 have X3:XAt (rdC (Base.of w) [(g1,81,(cPG ⟨hd,tx,pl,mn,pa,sq⟩ (.slice A1 n1 c1) (.slice A2 n2 c2) (.slice A3 n3 c3)).toArray)]) g1 34 ([.int .u32 (mn:Int)]++([.slice A2 n2 c2]++([.slice A3 n3 c3]))):=X2.right (n:=1) rfl
 have X4:XAt (rdC (Base.of w) [(g1,81,(cPG ⟨hd,tx,pl,mn,pa,sq⟩ (.slice A1 n1 c1) (.slice A2 n2 c2) (.slice A3 n3 c3)).toArray)]) g1 35 ([.slice A2 n2 c2]++([.slice A3 n3 c3])):=X3.right (n:=1) rfl
 have X5:XAt (rdC (Base.of w) [(g1,81,(cPG ⟨hd,tx,pl,mn,pa,sq⟩ (.slice A1 n1 c1) (.slice A2 n2 c2) (.slice A3 n3 c3)).toArray)]) g1 36 ([.slice A3 n3 c3]):=X4.right (n:=1) rfl
 refine sA ?_
 obtain ⟨b1,hb1⟩:∃ z:Bool,z=decide (hd=z32):=⟨_,rfl⟩
 refine sP (.pointer (some ⟨g1,0,none⟩))<|sS (.agg (hd.map bv).toArray) (rowC (R:=[(g1,81,(cPG ⟨hd,tx,pl,mn,pa,sq⟩ (.slice A1 n1 c1) (.slice A2 n2 c2) (.slice A3 n3 c3)).toArray)]) (g:=g1) (f:=0) (k:=32) (cs:=hd.map bv) X0.left (λy hy=>hy) m0 rfl Tryz.underlying28)<|sP (.agg (z32.map bv).toArray)<|sS (.bool b1) (Quiet.pure (λw=>by rw [hb1]; exact eql_dgs w _ _ _ _ hd z32 h0 rfl rfl rfl rfl))<|sp rfl ?_
 cases b1
 case' false =>
  refine sN<|sN<|sN<|sN<|sP (.bool false)<|sp rfl<|sN<|sN<|sN<|sP (.bool false)<|sp rfl<|sN<|sN<|sN<|sP (.bool false)<|sp rfl<|sN<|sN<|sN<|sN<|sP (.bool false)<|sp rfl<|sN<|sN<|sN<|sN<|sP (.bool false) ?_
  refine sp rfl ?_
  refine sG<|Sy.ret ?_
  rw [hnul, ← hb1]
  exact rV (.bool false) rfl
 obtain ⟨b2,hb2⟩:∃ z:Bool,z=decide (n1=0):=⟨_,rfl⟩
 refine sP (.pointer (some ⟨g1,32,none⟩))<|sS (.slice A1 n1 c1) (cellC (R:=[(g1,81,(cPG ⟨hd,tx,pl,mn,pa,sq⟩ (.slice A1 n1 c1) (.slice A2 n2 c2) (.slice A3 n3 c3)).toArray)]) (g:=g1) (f:=32) X1.one (λy hy=>hy) rfl Tryz.underlying29)<|sP (.int .i64 (n1:Int))<|sS (.bool b2) (Quiet.pure (exec_int .eql _ _ _ .i64 _ _ _ rfl rfl rfl (int_eql _ _ _ _ _ (by rw [hb2]; exact decide_eq_decide.2 (by omega)))))<|sP (.bool b2)<|sp rfl ?_
 cases b2
 case' false =>
  refine sN<|sN<|sN<|sP (.bool false)<|sp rfl<|sN<|sN<|sN<|sP (.bool false)<|sp rfl<|sN<|sN<|sN<|sN<|sP (.bool false)<|sp rfl<|sN<|sN<|sN<|sN<|sP (.bool false) ?_
  refine sp rfl ?_
  refine sG<|Sy.ret ?_
  rw [hnul, ← hb1, ← hb2]
  exact rV (.bool false) rfl
 obtain ⟨b3,hb3⟩:∃ z:Bool,z=decide (pl=0):=⟨_,rfl⟩
 refine sP (.pointer (some ⟨g1,33,none⟩))<|sS (.int .u32 (pl:Int)) (cellC (R:=[(g1,81,(cPG ⟨hd,tx,pl,mn,pa,sq⟩ (.slice A1 n1 c1) (.slice A2 n2 c2) (.slice A3 n3 c3)).toArray)]) (g:=g1) (f:=33) X2.one (λy hy=>hy) rfl Tryz.underlying67)<|sS (.bool b3) (Quiet.pure (exec_int .eql _ _ _ .u32 _ _ _ rfl rfl rfl (int_eql _ _ _ _ _ (by rw [hb3]; exact decide_eq_decide.2 (by omega)))))<|sP (.bool b3)<|sp rfl ?_
 cases b3
 case' false =>
  refine sN<|sN<|sN<|sP (.bool false)<|sp rfl<|sN<|sN<|sN<|sN<|sP (.bool false)<|sp rfl<|sN<|sN<|sN<|sN<|sP (.bool false) ?_
  refine sp rfl ?_
  refine sG<|Sy.ret ?_
  rw [hnul, ← hb1, ← hb2, ← hb3]
  exact rV (.bool false) rfl
 obtain ⟨b4,hb4⟩:∃ z:Bool,z=decide (mn=0):=⟨_,rfl⟩
 refine sP (.pointer (some ⟨g1,34,none⟩))<|sS (.int .u32 (mn:Int)) (cellC (R:=[(g1,81,(cPG ⟨hd,tx,pl,mn,pa,sq⟩ (.slice A1 n1 c1) (.slice A2 n2 c2) (.slice A3 n3 c3)).toArray)]) (g:=g1) (f:=34) X3.one (λy hy=>hy) rfl Tryz.underlying67)<|sS (.bool b4) (Quiet.pure (exec_int .eql _ _ _ .u32 _ _ _ rfl rfl rfl (int_eql _ _ _ _ _ (by rw [hb4]; exact decide_eq_decide.2 (by omega)))))<|sP (.bool b4)<|sp rfl ?_
 cases b4
 case' false =>
  refine sN<|sN<|sN<|sN<|sP (.bool false)<|sp rfl<|sN<|sN<|sN<|sN<|sP (.bool false) ?_
  refine sp rfl ?_
  refine sG<|Sy.ret ?_
  rw [hnul, ← hb1, ← hb2, ← hb3, ← hb4]
  exact rV (.bool false) rfl
 obtain ⟨b5,hb5⟩:∃ z:Bool,z=decide (n2=0):=⟨_,rfl⟩
 refine sP (.pointer (some ⟨g1,35,none⟩))<|sS (.slice A2 n2 c2) (cellC (R:=[(g1,81,(cPG ⟨hd,tx,pl,mn,pa,sq⟩ (.slice A1 n1 c1) (.slice A2 n2 c2) (.slice A3 n3 c3)).toArray)]) (g:=g1) (f:=35) X4.one (λy hy=>hy) rfl Tryz.underlying79)<|sP (.int .i64 (n2:Int))<|sS (.bool b5) (Quiet.pure (exec_int .eql _ _ _ .i64 _ _ _ rfl rfl rfl (int_eql _ _ _ _ _ (by rw [hb5]; exact decide_eq_decide.2 (by omega)))))<|sP (.bool b5)<|sp rfl ?_
 cases b5
 case' false =>
  refine sN<|sN<|sN<|sN<|sP (.bool false) ?_
  refine sp rfl ?_
  refine sG<|Sy.ret ?_
  rw [hnul, ← hb1, ← hb2, ← hb3, ← hb4, ← hb5]
  exact rV (.bool false) rfl
 obtain ⟨b6,hb6⟩:∃ z:Bool,z=decide (n3=0):=⟨_,rfl⟩
 refine sP (.pointer (some ⟨g1,36,none⟩))<|sS (.slice A3 n3 c3) (cellC (R:=[(g1,81,(cPG ⟨hd,tx,pl,mn,pa,sq⟩ (.slice A1 n1 c1) (.slice A2 n2 c2) (.slice A3 n3 c3)).toArray)]) (g:=g1) (f:=36) X5.one (λy hy=>hy) rfl Tryz.underlying29)<|sP (.int .i64 (n3:Int))<|sS (.bool b6) (Quiet.pure (exec_int .eql _ _ _ .i64 _ _ _ rfl rfl rfl (int_eql _ _ _ _ _ (by rw [hb6]; exact decide_eq_decide.2 (by omega)))))<|sP (.bool b6) ?_
 refine sp rfl ?_
 refine sG<|Sy.ret ?_
 rw [hnul, ← hb1, ← hb2, ← hb3, ← hb4, ← hb5, ← hb6]
 exact rV (.bool b6) rfl
theorem optW_any (w0:Base) (gw:Nat) (bad:Bool) (s:Slc) (R:Blocks) (b:Byt) (x:Byt×Nat) (cs:List Value) (hx:repOP (rdW w0.world) cs x) (hb:BS s b) (hl:b.length+36≤70368744160000) (w:World) (hw:St w0 w (WB gw bad s R)) :
  Calls Tryz.prog 155 #[ptr gw,.agg cs.toArray] w (Turns w0 (Wd gw R true (encOP x) 36 bad b)):=by
 obtain ⟨id,ix⟩:=x
 obtain ⟨rfl,h1,h2⟩:=hx
 dsimp only at h1 h2
 have e0:(id.map bv).length=32:=by rw [List.length_map,h1]
 have hlen:(id.map bv++[Value.int .u32 (ix:Int)]).length=33:=by rw [List.length_append,e0]; rfl
 refine Sy.enterT (args:=[ptr gw,.agg (id.map bv++[Value.int .u32 (ix:Int)]).toArray]) hw Tryz.func155 rfl kL ?_
 refine sC ?_
 refine sM 69 (id.map bv++[Value.int .u32 (ix:Int)]).toArray (λg3=>?_) kR (λw=>run_boxR rfl rfl (by kernel_rfl) hlen w)
 refine Sy.permS (M:=WB gw bad s (R++[(g3,69,(id.map bv++[Value.int .u32 (ix:Int)]).toArray)])) (List.Perm.of_eq (by simp only [List.append_assoc])) ?_
 have X0:XAt (rdC w0.inn [(g3,69,(id.map bv++[Value.int .u32 (ix:Int)]).toArray)]) g3 0 ((id.map bv++[Value.int .u32 (ix:Int)])):=λi u hu=>.inr ⟨_,_,List.mem_singleton.2 rfl,by rw [Nat.zero_add,List.getElem?_toArray]; exact hu⟩
 have X1:XAt (rdC w0.inn [(g3,69,(id.map bv++[Value.int .u32 (ix:Int)]).toArray)]) g3 32 [.int .u32 (ix:Int)]:=X0.right e0
 refine sA ?_
 refine sp rfl<|sP (.pointer (some ⟨g3,0,none⟩))<|sS (.agg (id.map bv).toArray) (rowC (R:=[(g3,69,(id.map bv++[Value.int .u32 (ix:Int)]).toArray)]) (g:=g3) (f:=0) (k:=32) (cs:=id.map bv) X0.left (λy hy=>inWB (List.mem_append_right R hy)) e0 rfl Tryz.underlying28) ?_
 refine Sy.callT (λw hw=>digWd w0.inn gw bad s (R++[(g3,69,(id.map bv++[Value.int .u32 (ix:Int)]).toArray)]) b id h1 hb (by omega) w hw) (λu M hM=>?_)
 obtain ⟨s1,bad1,b1,q1,p1,rfl⟩:=hM
 have l1:b1.length≤b.length+32:=q1.len
 refine Sy.nil<|Sy.then_<|Sy.region ?_
 refine sp rfl<|sP (.pointer (some ⟨g3,32,none⟩))<|sS (.int .u32 (ix:Int)) (cellC (R:=[(g3,69,(id.map bv++[Value.int .u32 (ix:Int)]).toArray)]) (g:=g3) (f:=32) X1.one (λy hy=>inWB (List.mem_append_right R hy)) rfl Tryz.underlying67)<|sS (.int .u64 (ix:Int)) (Quiet.pure (λw=>conv_48 w _ _ _ ix h2 rfl rfl)) ?_
 refine Sy.callT (λw hw=>numWd 4 (by decide) w0.inn gw bad1 s1 (R++[(g3,69,(id.map bv++[Value.int .u32 (ix:Int)]).toArray)]) b1 ix (by omega) p1 (by omega) w hw) (λu M hM=>?_)
 obtain ⟨s2,bad2,b2,q2,p2,rfl⟩:=hM
 have l2:b2.length≤b1.length+4:=q2.len
 refine Sy.nil ?_
 have q:=q1.then_ q2
 exact Sy.retT0 rfl (WB gw bad2 s2 R) (λ_ h=>dropW h) (λ_=>⟨s2,bad2,b2,q,p2,rfl⟩)
theorem issW_any (w0:Base) (gw:Nat) (bad:Bool) (s:Slc) (R:Blocks) (b:Byt) (x:MIs) (cs:List Value) (hx:repIS (rdW w0.world) cs x) (hb:BS s b) (hl:b.length+wtIS x≤70368744160000) (w:World) (hw:St w0 w (WB gw bad s R)) :
  Calls Tryz.prog 156 #[ptr gw,.agg cs.toArray] w (Turns w0 (Wd gw R (okIS x) (encIS x) (wtIS x) bad b)):=by
 obtain ⟨z,am,rg,tk,en,sc⟩:=x
 obtain ⟨vr,rfl,d1,h2,h3,h4,h5⟩:=hx
 dsimp only at d1 h2 h3 h4 h5
 unfold wtIS at hl
 dsimp only at hl
 have m4:(en.map bv).length=32:=by rw [List.length_map,h4]
 have hlen:(cIS ⟨z,am,rg,tk,en,sc⟩ vr).length=50:=by simp only [cIS,cAM,List.length_append,m4,fws_len,lPT_len]; rfl
 refine Sy.enterT (args:=[ptr gw,.agg (cIS ⟨z,am,rg,tk,en,sc⟩ vr).toArray]) hw Tryz.func156 rfl kL ?_
 refine sC ?_
 refine sM 78 (cIS ⟨z,am,rg,tk,en,sc⟩ vr).toArray (λg3=>?_) kR (λw=>run_boxR rfl rfl (by kernel_rfl) hlen w)
 refine Sy.permS (M:=WB gw bad s (R++[(g3,78,(cIS ⟨z,am,rg,tk,en,sc⟩ vr).toArray)])) (List.Perm.of_eq (by simp only [List.append_assoc])) ?_
 have X0:XAt (rdC w0.inn [(g3,78,(cIS ⟨z,am,rg,tk,en,sc⟩ vr).toArray)]) g3 0 ((cIS ⟨z,am,rg,tk,en,sc⟩ vr)):=λi u hu=>.inr ⟨_,_,List.mem_singleton.2 rfl,by rw [Nat.zero_add,List.getElem?_toArray]; exact hu⟩
 have X1:XAt (rdC w0.inn [(g3,78,(cIS ⟨z,am,rg,tk,en,sc⟩ vr).toArray)]) g3 1 (cAM am++([vr]++([.int .u64 (tk:Int)]++(en.map bv++(Cu.fws sc))))):=X0.right (n:=1) rfl
 have X2:XAt (rdC w0.inn [(g3,78,(cIS ⟨z,am,rg,tk,en,sc⟩ vr).toArray)]) g3 12 ([vr]++([.int .u64 (tk:Int)]++(en.map bv++(Cu.fws sc)))):=X1.right (n:=11) rfl
 have X3:XAt (rdC w0.inn [(g3,78,(cIS ⟨z,am,rg,tk,en,sc⟩ vr).toArray)]) g3 13 ([.int .u64 (tk:Int)]++(en.map bv++(Cu.fws sc))):=X2.right (n:=1) rfl
 have X4:XAt (rdC w0.inn [(g3,78,(cIS ⟨z,am,rg,tk,en,sc⟩ vr).toArray)]) g3 14 (en.map bv++(Cu.fws sc)):=X3.right (n:=1) rfl
 have X5:XAt (rdC w0.inn [(g3,78,(cIS ⟨z,am,rg,tk,en,sc⟩ vr).toArray)]) g3 46 (Cu.fws sc):=X4.right m4
 refine sA ?_
 refine sp rfl<|sP (.pointer (some ⟨g3,0,none⟩))<|sS (.int .i64 z) (cellC (R:=[(g3,78,(cIS ⟨z,am,rg,tk,en,sc⟩ vr).toArray)]) (g:=g3) (f:=0) X0.one (λy hy=>inWB (List.mem_append_right R hy)) rfl Tryz.underlying3) ?_
 refine Sy.callT (λw hw=>smallW_any w0.inn gw bad s (R++[(g3,78,(cIS ⟨z,am,rg,tk,en,sc⟩ vr).toArray)]) b 0 2 z hb (by omega) w hw) (λu M hM=>?_)
 obtain ⟨s1,bad1,b1,q1,p1,rfl⟩:=hM
 have l1:b1.length≤b.length+1:=q1.len
 refine sG<|Sy.seq<|sC ?_
 by_cases h0:z=0
 ·subst h0
  obtain ⟨A,n,cp,rfl,k2,k3,k4,k5⟩:=h2
  have hnul:nulIS ⟨0,am,rg,tk,en,sc⟩=(nulAM am && (decide (n=0) && (decide (tk=0) && (decide (en=z32) && decide (sc=0))))):=by unfold nulIS; dsimp only; rw [k2]
  refine sP (.pointer (some ⟨g3,0,none⟩))<|sS (.int .i64 0) (cellC (R:=[(g3,78,(cIS ⟨0,am,rg,tk,en,sc⟩ (.slice A n cp)).toArray)]) (g:=g3) (f:=0) X0.one (λy hy=>inWB (List.mem_append_right R hy)) rfl Tryz.underlying3)<|sP (.bool true) ?_
  refine sG<|sT<|sC ?_
  refine sp rfl ?_
  obtain ⟨b1,hb1⟩:∃ z:Bool,z=nulAM am:=⟨_,rfl⟩
  refine sP (.pointer (some ⟨g3,1,none⟩))<|sS (.agg (cAM am).toArray) (rowC (R:=[(g3,78,(cIS ⟨0,am,rg,tk,en,sc⟩ (.slice A n cp)).toArray)]) (g:=g3) (f:=1) (k:=11) (cs:=cAM am) X1.left (λy hy=>inWB (List.mem_append_right R hy)) rfl rfl Tryz.underlying75)<|sP (.agg (cAM zAM).toArray)<|sS (.bool b1) (Quiet.pure (λw=>by rw [hb1]; exact eql_am w _ _ _ _ am rfl rfl rfl d1.2.1 d1.2.2))<|sp rfl ?_
  cases b1
  case' false =>
   refine sN<|sN<|sN<|sN<|sP (.bool false)<|sp rfl<|sN<|sN<|sN<|sP (.bool false)<|sp rfl<|sN<|sN<|sN<|sN<|sP (.bool false)<|sp rfl<|sN<|sN<|sN<|sN<|sP (.bool false) ?_
   have hv:nulIS ⟨0,am,rg,tk,en,sc⟩=false:=by rw [hnul, ← hb1]; first | rfl | (simp only [Bool.true_and,Bool.false_and])
   refine Sy.callT (λw hw=>mustW_any w0.inn gw bad1 false s1 (R++[(g3,78,(cIS ⟨0,am,rg,tk,en,sc⟩ (.slice A n cp)).toArray)]) w hw) (λu M hM=>?_)
   subst hM
   refine sG<|Sy.ret<|Sy.then_ret ?_
   have q:=(q1.then_ (Wrote.must false bad1 b1)).le (k':=wtIS ⟨0,am,rg,tk,en,sc⟩) (by unfold wtIS; dsimp only; omega)
   have e:okIS ⟨0,am,rg,tk,en,sc⟩=(okS 0 2 0 && false):=by rw [← hv]; rfl
   exact Sy.retT0 rfl (WB gw (bad1 || !false) s1 R) (λ_ h=>dropW h) (λ_=>⟨s1,bad1 || !false,b1,by rw [e]; exact q,p1,rfl⟩)
  obtain ⟨b2,hb2⟩:∃ z:Bool,z=decide (n=0):=⟨_,rfl⟩
  refine sP (.pointer (some ⟨g3,12,none⟩))<|sS (.slice A n cp) (cellC (R:=[(g3,78,(cIS ⟨0,am,rg,tk,en,sc⟩ (.slice A n cp)).toArray)]) (g:=g3) (f:=12) X2.one (λy hy=>inWB (List.mem_append_right R hy)) rfl Tryz.underlying29)<|sP (.int .i64 (n:Int))<|sS (.bool b2) (Quiet.pure (exec_int .eql _ _ _ .i64 _ _ _ rfl rfl rfl (int_eql _ _ _ _ _ (by rw [hb2]; exact decide_eq_decide.2 (by omega)))))<|sP (.bool b2)<|sp rfl ?_
  cases b2
  case' false =>
   refine sN<|sN<|sN<|sP (.bool false)<|sp rfl<|sN<|sN<|sN<|sN<|sP (.bool false)<|sp rfl<|sN<|sN<|sN<|sN<|sP (.bool false) ?_
   have hv:nulIS ⟨0,am,rg,tk,en,sc⟩=false:=by rw [hnul, ← hb1, ← hb2]; first | rfl | (simp only [Bool.true_and,Bool.false_and])
   refine Sy.callT (λw hw=>mustW_any w0.inn gw bad1 false s1 (R++[(g3,78,(cIS ⟨0,am,rg,tk,en,sc⟩ (.slice A n cp)).toArray)]) w hw) (λu M hM=>?_)
   subst hM
   refine sG<|Sy.ret<|Sy.then_ret ?_
   have q:=(q1.then_ (Wrote.must false bad1 b1)).le (k':=wtIS ⟨0,am,rg,tk,en,sc⟩) (by unfold wtIS; dsimp only; omega)
   have e:okIS ⟨0,am,rg,tk,en,sc⟩=(okS 0 2 0 && false):=by rw [← hv]; rfl
   exact Sy.retT0 rfl (WB gw (bad1 || !false) s1 R) (λ_ h=>dropW h) (λ_=>⟨s1,bad1 || !false,b1,by rw [e]; exact q,p1,rfl⟩)
  obtain ⟨b3,hb3⟩:∃ z:Bool,z=decide (tk=0):=⟨_,rfl⟩
  refine sP (.pointer (some ⟨g3,13,none⟩))<|sS (.int .u64 (tk:Int)) (cellC (R:=[(g3,78,(cIS ⟨0,am,rg,tk,en,sc⟩ (.slice A n cp)).toArray)]) (g:=g3) (f:=13) X3.one (λy hy=>inWB (List.mem_append_right R hy)) rfl Tryz.underlying22)<|sS (.bool b3) (Quiet.pure (exec_int .eql _ _ _ .u64 _ _ _ rfl rfl rfl (int_eql _ _ _ _ _ (by rw [hb3]; exact decide_eq_decide.2 (by omega)))))<|sP (.bool b3)<|sp rfl ?_
  cases b3
  case' false =>
   refine sN<|sN<|sN<|sN<|sP (.bool false)<|sp rfl<|sN<|sN<|sN<|sN<|sP (.bool false) ?_
   have hv:nulIS ⟨0,am,rg,tk,en,sc⟩=false:=by rw [hnul, ← hb1, ← hb2, ← hb3]; first | rfl | (simp only [Bool.true_and,Bool.false_and])
   refine Sy.callT (λw hw=>mustW_any w0.inn gw bad1 false s1 (R++[(g3,78,(cIS ⟨0,am,rg,tk,en,sc⟩ (.slice A n cp)).toArray)]) w hw) (λu M hM=>?_)
   subst hM
   refine sG<|Sy.ret<|Sy.then_ret ?_
   have q:=(q1.then_ (Wrote.must false bad1 b1)).le (k':=wtIS ⟨0,am,rg,tk,en,sc⟩) (by unfold wtIS; dsimp only; omega)
   have e:okIS ⟨0,am,rg,tk,en,sc⟩=(okS 0 2 0 && false):=by rw [← hv]; rfl
   exact Sy.retT0 rfl (WB gw (bad1 || !false) s1 R) (λ_ h=>dropW h) (λ_=>⟨s1,bad1 || !false,b1,by rw [e]; exact q,p1,rfl⟩)
  obtain ⟨b4,hb4⟩:∃ z:Bool,z=decide (en=z32):=⟨_,rfl⟩
  refine sP (.pointer (some ⟨g3,14,none⟩))<|sS (.agg (en.map bv).toArray) (rowC (R:=[(g3,78,(cIS ⟨0,am,rg,tk,en,sc⟩ (.slice A n cp)).toArray)]) (g:=g3) (f:=14) (k:=32) (cs:=en.map bv) X4.left (λy hy=>inWB (List.mem_append_right R hy)) m4 rfl Tryz.underlying28)<|sP (.agg (z32.map bv).toArray)<|sS (.bool b4) (Quiet.pure (λw=>by rw [hb4]; exact eql_dgs w _ _ _ _ en z32 h4 rfl rfl rfl rfl))<|sP (.bool b4)<|sp rfl ?_
  cases b4
  case' false =>
   refine sN<|sN<|sN<|sN<|sP (.bool false) ?_
   have hv:nulIS ⟨0,am,rg,tk,en,sc⟩=false:=by rw [hnul, ← hb1, ← hb2, ← hb3, ← hb4]; first | rfl | (simp only [Bool.true_and,Bool.false_and])
   refine Sy.callT (λw hw=>mustW_any w0.inn gw bad1 false s1 (R++[(g3,78,(cIS ⟨0,am,rg,tk,en,sc⟩ (.slice A n cp)).toArray)]) w hw) (λu M hM=>?_)
   subst hM
   refine sG<|Sy.ret<|Sy.then_ret ?_
   have q:=(q1.then_ (Wrote.must false bad1 b1)).le (k':=wtIS ⟨0,am,rg,tk,en,sc⟩) (by unfold wtIS; dsimp only; omega)
   have e:okIS ⟨0,am,rg,tk,en,sc⟩=(okS 0 2 0 && false):=by rw [← hv]; rfl
   exact Sy.retT0 rfl (WB gw (bad1 || !false) s1 R) (λ_ h=>dropW h) (λ_=>⟨s1,bad1 || !false,b1,by rw [e]; exact q,p1,rfl⟩)
  obtain ⟨b5,hb5⟩:∃ z:Bool,z=decide (sc=0):=⟨_,rfl⟩
  refine sP (.pointer (some ⟨g3,46,none⟩))<|sS (fv sc) (rowC (R:=[(g3,78,(cIS ⟨0,am,rg,tk,en,sc⟩ (.slice A n cp)).toArray)]) (g:=g3) (f:=46) (k:=4) (cs:=Cu.fws sc) X5 (λy hy=>inWB (List.mem_append_right R hy)) rfl rfl Tryz.underlying76)<|sP (fv 0)<|sS (.bool b5) (Quiet.pure (λw=>by rw [hb5]; exact eqlSC w _ _ _ _ sc 0 rfl rfl rfl h5 (by decide)))<|sP (.bool b5) ?_
  have hv:nulIS ⟨0,am,rg,tk,en,sc⟩=b5:=by rw [hnul, ← hb1, ← hb2, ← hb3, ← hb4, ← hb5]; first | rfl | (simp only [Bool.true_and,Bool.false_and])
  refine Sy.callT (λw hw=>mustW_any w0.inn gw bad1 b5 s1 (R++[(g3,78,(cIS ⟨0,am,rg,tk,en,sc⟩ (.slice A n cp)).toArray)]) w hw) (λu M hM=>?_)
  subst hM
  refine sG<|Sy.ret<|Sy.then_ret ?_
  have q:=(q1.then_ (Wrote.must b5 bad1 b1)).le (k':=wtIS ⟨0,am,rg,tk,en,sc⟩) (by unfold wtIS; dsimp only; omega)
  have e:okIS ⟨0,am,rg,tk,en,sc⟩=(okS 0 2 0 && b5):=by rw [← hv]; rfl
  exact Sy.retT0 rfl (WB gw (bad1 || !b5) s1 R) (λ_ h=>dropW h) (λ_=>⟨s1,bad1 || !b5,b1,by rw [e]; exact q,p1,rfl⟩)
 refine sP (.pointer (some ⟨g3,0,none⟩))<|sS (.int .i64 z) (cellC (R:=[(g3,78,(cIS ⟨z,am,rg,tk,en,sc⟩ vr).toArray)]) (g:=g3) (f:=0) X0.one (λy hy=>inWB (List.mem_append_right R hy)) rfl Tryz.underlying3)<|sS (.bool false) (Quiet.pure (exec_int .eql _ _ _ .i64 _ _ _ rfl rfl rfl (int_eql _ _ _ _ _ (decide_eq_false h0)))) ?_
 refine sG<|sU<|Sy.skip<|Sy.then_<|sC ?_
 refine sp rfl<|sP (.pointer (some ⟨g3,1,none⟩))<|sS (.agg (cAM am).toArray) (rowC (R:=[(g3,78,(cIS ⟨z,am,rg,tk,en,sc⟩ vr).toArray)]) (g:=g3) (f:=1) (k:=11) (cs:=cAM am) X1.left (λy hy=>inWB (List.mem_append_right R hy)) rfl rfl Tryz.underlying75) ?_
 refine Sy.callT (λw hw=>amountW_any w0.inn gw bad1 s1 (R++[(g3,78,(cIS ⟨z,am,rg,tk,en,sc⟩ vr).toArray)]) b1 am d1.1 d1.2.1 d1.2.2 p1 (by omega) w hw) (λu M hM=>?_)
 obtain ⟨s2,bad2,b2,q2,p2,rfl⟩:=hM
 have l2:b2.length≤b1.length+34:=q2.len
 refine sA ?_
 refine sp rfl<|sP (.pointer (some ⟨g3,12,none⟩))<|sS vr (cellC (R:=[(g3,78,(cIS ⟨z,am,rg,tk,en,sc⟩ vr).toArray)]) (g:=g3) (f:=12) X2.one (λy hy=>inWB (List.mem_append_right R hy)) rfl Tryz.underlying29) ?_
 refine Sy.callT (λw hw=>textW_any w0.inn gw bad2 s2 (R++[(g3,78,(cIS ⟨z,am,rg,tk,en,sc⟩ vr).toArray)]) b2 vr rg 6000 (by decide) p2 h2 (by omega) w hw) (λu M hM=>?_)
 obtain ⟨s3,bad3,b3,q3,p3,rfl⟩:=hM
 have l3:b3.length≤b2.length+(9+rg.length):=q3.len
 refine sA ?_
 refine sp rfl<|sP (.pointer (some ⟨g3,13,none⟩))<|sS (.int .u64 (tk:Int)) (cellC (R:=[(g3,78,(cIS ⟨z,am,rg,tk,en,sc⟩ vr).toArray)]) (g:=g3) (f:=13) X3.one (λy hy=>inWB (List.mem_append_right R hy)) rfl Tryz.underlying22) ?_
 refine Sy.callT (λw hw=>numWd 8 (by decide) w0.inn gw bad3 s3 (R++[(g3,78,(cIS ⟨z,am,rg,tk,en,sc⟩ vr).toArray)]) b3 tk h3 p3 (by omega) w hw) (λu M hM=>?_)
 obtain ⟨s4,bad4,b4,q4,p4,rfl⟩:=hM
 have l4:b4.length≤b3.length+8:=q4.len
 refine sA ?_
 refine sp rfl<|sP (.pointer (some ⟨g3,14,none⟩))<|sS (.agg (en.map bv).toArray) (rowC (R:=[(g3,78,(cIS ⟨z,am,rg,tk,en,sc⟩ vr).toArray)]) (g:=g3) (f:=14) (k:=32) (cs:=en.map bv) X4.left (λy hy=>inWB (List.mem_append_right R hy)) m4 rfl Tryz.underlying28) ?_
 refine Sy.callT (λw hw=>digWd w0.inn gw bad4 s4 (R++[(g3,78,(cIS ⟨z,am,rg,tk,en,sc⟩ vr).toArray)]) b4 en h4 p4 (by omega) w hw) (λu M hM=>?_)
 obtain ⟨s5,bad5,b5,q5,p5,rfl⟩:=hM
 have l5:b5.length≤b4.length+32:=q5.len
 refine sA ?_
 obtain ⟨ok,hok⟩:∃ z,z=okSC sc:=⟨_,rfl⟩
 refine sp rfl<|sP (.pointer (some ⟨g3,46,none⟩))<|sS (fv sc) (rowC (R:=[(g3,78,(cIS ⟨z,am,rg,tk,en,sc⟩ vr).toArray)]) (g:=g3) (f:=46) (k:=4) (cs:=Cu.fws sc) X5 (λy hy=>inWB (List.mem_append_right R hy)) rfl rfl Tryz.underlying76)<|sS (.bool ok) (qg (λw _=>by rw [hok]; exact below_any w sc h5)) ?_
 refine Sy.callT (λw hw=>mustW_any w0.inn gw bad5 ok s5 (R++[(g3,78,(cIS ⟨z,am,rg,tk,en,sc⟩ vr).toArray)]) w hw) (λu M hM=>?_)
 subst hM
 refine Sy.nil<|Sy.then_<|Sy.region ?_
 refine sp rfl<|sP (.pointer (some ⟨g3,46,none⟩))<|sS (fv sc) (rowC (R:=[(g3,78,(cIS ⟨z,am,rg,tk,en,sc⟩ vr).toArray)]) (g:=g3) (f:=46) (k:=4) (cs:=Cu.fws sc) X5 (λy hy=>inWB (List.mem_append_right R hy)) rfl rfl Tryz.underlying76) ?_
 refine Sy.callN kR 204 #[fv sc] kF _ (λw' _=>Cu.bscN w' sc h5) (λu M hM=>?_)
 obtain ⟨g,sq,cap,rfl,⟨hc1,hc2⟩,rfl⟩:=hM
 have hB:BytR (rdC w0.inn ((R++[(g3,78,(cIS ⟨z,am,rg,tk,en,sc⟩ vr).toArray)])++[(g,5,((encSC sc).map bv++sq).toArray)])) (.slice (some ⟨g,0,none⟩) 32 cap) (encSC sc):=⟨_,_,_,rfl,bytesS_length _,hc1,by simp only [maxLen]; omega,λ_=>⟨g,0,rfl,λj y hj=>.inr ⟨5,_,List.mem_append_right _ (List.mem_singleton.2 rfl),by rw [Nat.zero_add,List.getElem?_toArray,List.getElem?_append_left (by rw [List.length_map]; exact (List.getElem?_eq_some_iff.1 hj).1),List.getElem?_map,hj]; rfl⟩⟩⟩
 refine Sy.permS (M:=WB gw (bad5 || !ok) s5 ((R++[(g3,78,(cIS ⟨z,am,rg,tk,en,sc⟩ vr).toArray)])++[(g,5,((encSC sc).map bv++sq).toArray)])) (List.Perm.of_eq (by simp only [List.append_assoc]; rfl)) ?_
 refine Sy.callT (λw hw=>wrawW_any w0.inn gw (bad5 || !ok) s5 ((R++[(g3,78,(cIS ⟨z,am,rg,tk,en,sc⟩ vr).toArray)])++[(g,5,((encSC sc).map bv++sq).toArray)]) b5 _ (encSC sc) p5 hB (by rw [show (encSC sc).length=32 from bytesS_length _]; omega) w hw) (λv M hM=>?_)
 obtain ⟨s6,p6,rfl⟩:=hM
 refine Sy.nil ?_
 have q6:=(Wrote.must ok bad5 b5).then_ (Wrote.raw (encSC sc) (bad5 || !ok) b5 (k:=32) (Nat.le_of_eq (bytesS_length _)))
 have q:=q1.then_ (q2.then_ (q3.then_ (q4.then_ (q5.then_ q6))))
 have fine:Wrote (okIS ⟨z,am,rg,tk,en,sc⟩) (encIS ⟨z,am,rg,tk,en,sc⟩) (wtIS ⟨z,am,rg,tk,en,sc⟩) bad b (bad5 || !ok) (b5++encSC sc):=by
  have e3:encIS ⟨z,am,rg,tk,en,sc⟩=[octB z]++bodyIS ⟨z,am,rg,tk,en,sc⟩:=by unfold encIS; rw [if_neg h0]
  rw [Bool.true_and,Bool.true_and,Bool.and_true,hok,List.nil_append,Nat.zero_add] at q
  by_cases hk:z=1∨z=2
  ·have e1:okS 0 2 z=true:=by rcases hk with rfl | rfl <;> rfl
   have e2:okIS ⟨z,am,rg,tk,en,sc⟩=fulIS ⟨z,am,rg,tk,en,sc⟩:=by unfold okIS; rw [if_neg h0,if_pos hk]
   rw [e1,Bool.true_and] at q
   rw [e2,e3,hok]
   exact q
  ·have e1:okS 0 2 z=false:=by
    cases hb:okS 0 2 z with
    | false=>rfl
    | true =>
     unfold okS at hb
     rw [Bool.and_eq_true,decide_eq_true_eq,decide_eq_true_eq] at hb
     exact (hk (by omega)).elim
   have e2:okIS ⟨z,am,rg,tk,en,sc⟩=false:=by unfold okIS; rw [if_neg h0,if_neg hk]
   rw [e1,Bool.false_and] at q
   rw [e2,e3,hok]
   exact q
 exact Sy.retT0 rfl (WB gw (bad5 || !ok) s6 R) (λ_ h=>dropW (by simpa only [List.append_assoc] using h)) (λ_=>⟨s6,bad5 || !ok,_,fine,p6,rfl⟩)
theorem pegW_any (w0:Base) (gw:Nat) (bad:Bool) (s:Slc) (R:Blocks) (b:Byt) (x:MPg) (cs:List Value) (hx:repPG (rdW w0.world) cs x) (hlo:x.path.length≤1000000000000) (hb:BS s b) (hl:b.length+wtPG x≤70368744160000) (w:World) (hw:St w0 w (WB gw bad s R)) :
  Calls Tryz.prog 157 #[ptr gw,.agg cs.toArray] w (Turns w0 (Wd gw R (okPG x) (encPG x) (wtPG x) bad b)):=by
 obtain ⟨hd,tx,pl,mn,pa,sq⟩:=x
 obtain ⟨vt,vp,vs,rfl,h1,h2,h3,h4,⟨A,n,cp,rfl,n1,n2,n3,n4⟩,h6⟩:=hx
 dsimp only at h1 h2 h3 h4 h6 n1 n4 hlo
 unfold wtPG at hl
 dsimp only at hl
 have m0:(hd.map bv).length=32:=by rw [List.length_map,h1]
 have hlen:(cPG ⟨hd,tx,pl,mn,pa,sq⟩ vt (.slice A n cp) vs).length=37:=by simp only [cPG,List.length_append,m0]; rfl
 refine Sy.enterT (args:=[ptr gw,.agg (cPG ⟨hd,tx,pl,mn,pa,sq⟩ vt (.slice A n cp) vs).toArray]) hw Tryz.func157 rfl kL ?_
 refine sC ?_
 refine sM 81 (cPG ⟨hd,tx,pl,mn,pa,sq⟩ vt (.slice A n cp) vs).toArray (λg3=>?_) kR (λw=>run_boxR rfl rfl (by kernel_rfl) hlen w)
 refine Sy.permS (M:=WB gw bad s (R++[(g3,81,(cPG ⟨hd,tx,pl,mn,pa,sq⟩ vt (.slice A n cp) vs).toArray)])) (List.Perm.of_eq (by simp only [List.append_assoc])) ?_
 have X0:XAt (rdC w0.inn [(g3,81,(cPG ⟨hd,tx,pl,mn,pa,sq⟩ vt (.slice A n cp) vs).toArray)]) g3 0 ((cPG ⟨hd,tx,pl,mn,pa,sq⟩ vt (.slice A n cp) vs)):=λi u hu=>.inr ⟨_,_,List.mem_singleton.2 rfl,by rw [Nat.zero_add,List.getElem?_toArray]; exact hu⟩
 have X1:XAt (rdC w0.inn [(g3,81,(cPG ⟨hd,tx,pl,mn,pa,sq⟩ vt (.slice A n cp) vs).toArray)]) g3 32 ([vt]++([.int .u32 (pl:Int)]++([.int .u32 (mn:Int)]++([.slice A n cp]++([vs]))))):=X0.right m0
 have X2:XAt (rdC w0.inn [(g3,81,(cPG ⟨hd,tx,pl,mn,pa,sq⟩ vt (.slice A n cp) vs).toArray)]) g3 33 ([.int .u32 (pl:Int)]++([.int .u32 (mn:Int)]++([.slice A n cp]++([vs])))):=X1.right (n:=1) rfl
 have X3:XAt (rdC w0.inn [(g3,81,(cPG ⟨hd,tx,pl,mn,pa,sq⟩ vt (.slice A n cp) vs).toArray)]) g3 34 ([.int .u32 (mn:Int)]++([.slice A n cp]++([vs]))):=X2.right (n:=1) rfl
 have X4:XAt (rdC w0.inn [(g3,81,(cPG ⟨hd,tx,pl,mn,pa,sq⟩ vt (.slice A n cp) vs).toArray)]) g3 35 ([.slice A n cp]++([vs])):=X3.right (n:=1) rfl
 have X5:XAt (rdC w0.inn [(g3,81,(cPG ⟨hd,tx,pl,mn,pa,sq⟩ vt (.slice A n cp) vs).toArray)]) g3 36 ([vs]):=X4.right (n:=1) rfl
 refine sA ?_
 refine sp rfl<|sP (.pointer (some ⟨g3,0,none⟩))<|sS (.agg (hd.map bv).toArray) (rowC (R:=[(g3,81,(cPG ⟨hd,tx,pl,mn,pa,sq⟩ vt (.slice A n cp) vs).toArray)]) (g:=g3) (f:=0) (k:=32) (cs:=hd.map bv) X0.left (λy hy=>inWB (List.mem_append_right R hy)) m0 rfl Tryz.underlying28) ?_
 refine Sy.callT (λw hw=>digWd w0.inn gw bad s (R++[(g3,81,(cPG ⟨hd,tx,pl,mn,pa,sq⟩ vt (.slice A n cp) vs).toArray)]) b hd h1 hb (by omega) w hw) (λu M hM=>?_)
 obtain ⟨s1,bad1,b1,q1,p1,rfl⟩:=hM
 have l1:b1.length≤b.length+32:=q1.len
 refine sA ?_
 refine sp rfl<|sP (.pointer (some ⟨g3,32,none⟩))<|sS vt (cellC (R:=[(g3,81,(cPG ⟨hd,tx,pl,mn,pa,sq⟩ vt (.slice A n cp) vs).toArray)]) (g:=g3) (f:=32) X1.one (λy hy=>inWB (List.mem_append_right R hy)) rfl Tryz.underlying29) ?_
 refine Sy.callT (λw hw=>textW_any w0.inn gw bad1 s1 (R++[(g3,81,(cPG ⟨hd,tx,pl,mn,pa,sq⟩ vt (.slice A n cp) vs).toArray)]) b1 vt tx 1024 (by decide) p1 h2 (by omega) w hw) (λu M hM=>?_)
 obtain ⟨s2,bad2,b2,q2,p2,rfl⟩:=hM
 have l2:b2.length≤b1.length+(9+tx.length):=q2.len
 refine sA ?_
 refine sp rfl<|sP (.pointer (some ⟨g3,33,none⟩))<|sS (.int .u32 (pl:Int)) (cellC (R:=[(g3,81,(cPG ⟨hd,tx,pl,mn,pa,sq⟩ vt (.slice A n cp) vs).toArray)]) (g:=g3) (f:=33) X2.one (λy hy=>inWB (List.mem_append_right R hy)) rfl Tryz.underlying67)<|sS (.int .u64 (pl:Int)) (Quiet.pure (λw=>conv_48 w _ _ _ pl h3 rfl rfl)) ?_
 refine Sy.callT (λw hw=>numWd 4 (by decide) w0.inn gw bad2 s2 (R++[(g3,81,(cPG ⟨hd,tx,pl,mn,pa,sq⟩ vt (.slice A n cp) vs).toArray)]) b2 pl (by omega) p2 (by omega) w hw) (λu M hM=>?_)
 obtain ⟨s3,bad3,b3,q3,p3,rfl⟩:=hM
 have l3:b3.length≤b2.length+4:=q3.len
 refine sA ?_
 refine sp rfl<|sP (.pointer (some ⟨g3,34,none⟩))<|sS (.int .u32 (mn:Int)) (cellC (R:=[(g3,81,(cPG ⟨hd,tx,pl,mn,pa,sq⟩ vt (.slice A n cp) vs).toArray)]) (g:=g3) (f:=34) X3.one (λy hy=>inWB (List.mem_append_right R hy)) rfl Tryz.underlying67)<|sS (.int .u64 (mn:Int)) (Quiet.pure (λw=>conv_48 w _ _ _ mn h4 rfl rfl)) ?_
 refine Sy.callT (λw hw=>numWd 4 (by decide) w0.inn gw bad3 s3 (R++[(g3,81,(cPG ⟨hd,tx,pl,mn,pa,sq⟩ vt (.slice A n cp) vs).toArray)]) b3 mn (by omega) p3 (by omega) w hw) (λu M hM=>?_)
 obtain ⟨s4,bad4,b4,q4,p4,rfl⟩:=hM
 have l4:b4.length≤b3.length+4:=q4.len
 refine sA ?_
 refine sp rfl<|sP (.pointer (some ⟨g3,35,none⟩))<|sS (.slice A n cp) (cellC (R:=[(g3,81,(cPG ⟨hd,tx,pl,mn,pa,sq⟩ vt (.slice A n cp) vs).toArray)]) (g:=g3) (f:=35) X4.one (λy hy=>inWB (List.mem_append_right R hy)) rfl Tryz.underlying79)<|sP (.int .i64 (n:Int)) ?_
 refine Sy.callT (λw hw=>manyW_any w0.inn gw bad4 s4 (R++[(g3,81,(cPG ⟨hd,tx,pl,mn,pa,sq⟩ vt (.slice A n cp) vs).toArray)]) b4 n 32 (by omega) (by decide) p4 (by omega) w hw) (λu M hM=>?_)
 obtain ⟨s5,bad5,b5,q5,p5,rfl⟩:=hM
 have l5:b5.length≤b4.length+9:=q5.len
 refine sG<|Sy.seq<|sC ?_
 refine sP (.int .i64 0) ?_
 refine sG<|Sy.block ?_
 have hsum6:∀ i,((pa.take i).map (λ_=>32)).sum≤(pa.map (λ_=>32)).sum:=λi=>by
  have e:=congrArg (λz=>(z.map (λ_=>32)).sum) (List.take_append_drop i pa)
  simp only [List.map_append,List.sum_append] at e
  omega
 refine Sy.loopT (Y:=Slc×Bool×Byt) n (λi _=>[(0,ptr gw),(3,ptr g3),(4,.int .i64 (i:Int))]) (λ_ y=>WB gw y.2.1 y.1 (R++[(g3,81,(cPG ⟨hd,tx,pl,mn,pa,sq⟩ vt (.slice A n cp) vs).toArray)])) (λi y=>Wrote ((pa.take i).all (λ_=>true)) ((pa.take i).flatMap (λd=>d)) (((pa.take i).map (λ_=>32)).sum) bad5 b5 y.2.1 y.2.2∧BS y.1 y.2.2) (s5,bad5,b5) ⟨by
  have e:=Wrote.raw [] bad5 b5 (k:=0) (Nat.le_refl 0)
  rw [List.append_nil] at e
  exact e,p5⟩ (all_cons kR (all_cons kR (all_cons kR all_nil))) (λ_ h=>h) (λi y hi hy=>?_)
 obtain ⟨s6,bad6,b6⟩:=y
 obtain ⟨q6,p6⟩:=hy
 dsimp only at q6 p6 ⊢
 refine Sy.seq<|sC ?_
 obtain ⟨t9,ht9⟩:∃ z:Bool,z=decide (i<n):=⟨_,rfl⟩
 refine sp rfl<|sP (.pointer (some ⟨g3,35,none⟩))<|sS (.slice A n cp) (cellC (R:=[(g3,81,(cPG ⟨hd,tx,pl,mn,pa,sq⟩ vt (.slice A n cp) vs).toArray)]) (g:=g3) (f:=35) X4.one (λy hy=>inWB (List.mem_append_right R hy)) rfl Tryz.underlying79)<|sP (.int .i64 (n:Int))<|sS (.bool t9) (Quiet.pure (exec_int .lss _ _ _ .i64 _ _ _ rfl rfl rfl (int_lss _ _ _ _ _ (by rw [ht9]; exact decide_eq_decide.2 (by omega))))) ?_
 refine sG ?_
 cases t9
 case' false =>
  have z3:¬ i<n:=of_decide_eq_false ht9.symm
  obtain rfl:n=i:=by omega
  rw [List.take_of_length_le (by omega)] at q6
  have l6:b6.length≤b5.length+(pa.map (λ_=>32)).sum:=q6.len
  refine sU<|Sy.exit<|Sy.then_exit<|Sy.then_exit<|Sy.in_exit<|Sy.then_<|Sy.region ?_
  refine sp rfl<|sP (.pointer (some ⟨g3,36,none⟩))<|sS vs (cellC (R:=[(g3,81,(cPG ⟨hd,tx,pl,mn,pa,sq⟩ vt (.slice A n cp) vs).toArray)]) (g:=g3) (f:=36) X5.one (λy hy=>inWB (List.mem_append_right R hy)) rfl Tryz.underlying29) ?_
  refine Sy.callT (λw hw=>textW_any w0.inn gw bad6 s6 (R++[(g3,81,(cPG ⟨hd,tx,pl,mn,pa,sq⟩ vt (.slice A n cp) vs).toArray)]) b6 vs sq 256 (by decide) p6 h6 (by omega) w hw) (λu M hM=>?_)
  obtain ⟨s7,bad7,b7,q7,p7,rfl⟩:=hM
  have l7:b7.length≤b6.length+(9+sq.length):=q7.len
  refine Sy.nil ?_
  have q:=q1.then_ (q2.then_ (q3.then_ (q4.then_ ((q5.then_ q6).then_ q7))))
  simp only [Bool.true_and,Bool.and_true,all_true] at q
  rw [← n1] at q
  exact Sy.retT0 rfl (WB gw bad7 s7 R) (λ_ h=>dropW h) (λ_=>⟨s7,bad7,b7,q,p7,rfl⟩)
 have z3:i<n:=of_decide_eq_true ht9.symm
 obtain ⟨x,hx⟩:∃ x,pa[i]? = some x:=⟨_,List.getElem?_eq_getElem (by omega)⟩
 obtain ⟨g,o,hA,hq⟩:=n4 (by intro e; rw [e] at hx; cases hx)
 obtain ⟨cx,y1,y2,y3,y4⟩:=hq i x hx
 obtain ⟨rfl,_⟩:=id y3
 have d1:XAt (rdC w0.inn []) g (o+i*32) _:=λj u hu=>.inl (y4 j u hu)
 have htk:pa.take (i+1)=pa.take i++[x]:=by rw [List.take_add_one,hx]; rfl
 have hsi:=hsum6 (i+1)
 rw [htk] at hsi
 simp only [List.map_append,List.sum_append,List.map_cons,List.map_nil,List.sum_cons,List.sum_nil] at hsi
 have hyl:=q6.len
 refine sT<|Sy.skip<|Sy.then_<|Sy.seq<|Sy.block<|Sy.region ?_
 refine sp rfl<|sP (.pointer (some ⟨g3,35,none⟩))<|sS (.slice A n cp) (cellC (R:=[(g3,81,(cPG ⟨hd,tx,pl,mn,pa,sq⟩ vt (.slice A n cp) vs).toArray)]) (g:=g3) (f:=35) X4.one (λy hy=>inWB (List.mem_append_right R hy)) rfl Tryz.underlying79)<|sp rfl<|sS (.pointer (some ⟨g,o+i*32,none⟩)) (Quiet.pure (exec_atO 79 _ _ _ A g o n cp i 32 .i64 hA rfl rfl rfl Tryz.underlying79 kF z3))<|sS (.agg (x.map bv).toArray) (rowC (R:=[]) d1 (λy hy=>by cases hy) y1 rfl Tryz.underlying28) ?_
 refine Sy.callT (λw hw=>digWd w0.inn gw bad6 s6 (R++[(g3,81,(cPG ⟨hd,tx,pl,mn,pa,sq⟩ vt (.slice A n cp) vs).toArray)]) b6 x y3.2 p6 (by omega) w hw) (λv M hM=>?_)
 obtain ⟨s9,bad9,b9,q9,p9,rfl⟩:=hM
 refine Sy.nil<|Sy.in_<|Sy.then_<|Sy.region ?_
 refine sp rfl<|sS (.int .i64 ((i+1:Nat):Int)) (Quiet.pure (exec_int .add _ _ _ .i64 _ _ _ rfl rfl rfl (int_add _ _ _ _ _ ((wrap_i64 (by omega) (by omega)).trans (by omega)))))<|sp rfl ?_
 refine Sy.nil ?_
 have hW:=q6.then_ q9
 have hW':Wrote ((pa.take (i+1)).all (λ_=>true)) ((pa.take (i+1)).flatMap (λd=>d)) (((pa.take (i+1)).map (λ_=>32)).sum) bad5 b5 bad9 b9:=by
  rw [htk]
  simp only [List.all_append,List.flatMap_append,List.map_append,List.sum_append,List.all_cons,List.all_nil,List.flatMap_cons,List.flatMap_nil,List.map_cons,List.map_nil,List.sum_cons,List.sum_nil,Bool.and_true,List.append_nil,Nat.add_zero]
  first | exact hW | simpa only [Bool.and_true] using hW
 exact Sy.againT (s9,bad9,b9) z3 ⟨hW',p9⟩ (all_cons kR (all_cons kR (all_cons kR all_nil))) (λw h=>h)
end Wr
end
section
namespace Wr
open Go.RowKit Sy
set_option maxRecDepth 100000
set_option maxHeartbeats 4000000
theorem joinX {P:Program} {w0:Base} {n:Nat} {Q:Exit→Act→World→Prop} {F:Slots} {L:Blocks} {c:Code} {T:Type} (FF:T→Slots) (LL:T→Blocks) (H:T→Prop) (h:∀ x,H x→X w0 n Q (FF x) (LL x) .normal) (k:(∀ x,H x→X w0 n Q (FF x) (LL x) .normal)→wpC P w0 n Q F L c):wpC P w0 n Q F L c:=k h
theorem leafX {w0:Base} {n:Nat} {Q:Exit→Act→World→Prop} {F:Slots} {L:Blocks} {T:Type} {FF:T→Slots} {LL:T→Blocks} {H:T→Prop} (h:∀ x,H x→X w0 n Q (FF x) (LL x) .normal) (x:T) (hx:H x) (hF:∀ p∈FF x,F.lookup p.1=some p.2) (hL:∀ w,St w0 w L→St w0 w (LL x)):X w0 n Q F L .normal:=λa w ha hw=>h x hx a w (ha.all hF) (hL w hw)
theorem sum_ge {α:Type} {wt:α→Nat} (h:∀ x,1≤wt x) (l:List α):l.length≤(l.map wt).sum:=by
 induction l with
 | nil=>exact Nat.le_refl 0
 | cons x l ih=>have q:=h x; rw [List.length_cons,List.map_cons,List.sum_cons]; omega
def cIN (z:Int) (pt:Byt) (ix:Nat) (ci cg:List Value) (vw:Value):List Value:=[.int .i64 z]++((pt.map bv++[.int .u32 (ix:Int)])++(ci++(cg++[vw])))
def cTX (af:Nat) (vi vo:Value):List Value:=[.int .u64 (af:Int)]++([vi]++[vo])
theorem path_le (p:MPg) {n:Nat} (h:wtPG p≤n):p.path.length≤n:=by
 have q:=sum_ge (wt:=λ_:Byt=>32) (λ_=>by decide) p.path
 unfold wtPG at h
 omega
theorem inW_any (w0:Base) (gw:Nat) (bad:Bool) (s:Slc) (R:Blocks) (b:Byt) (x:MIn) (cs:List Value) (hx:repIN (rdW w0.world) cs x) (hb:BS s b) (hl:b.length+wtIN x≤1000000000000) (w:World) (hw:St w0 w (WB gw bad s R)) :
  Calls Tryz.prog 97 #[ptr gw,.agg cs.toArray] w (Turns w0 (Wd gw R (okIN x) (encIN x) (wtIN x) bad b)):=by
 obtain ⟨z,pt,ix,iss,pg,wi⟩:=x
 obtain ⟨ci,cg,vw,hcs,h1,h2,h3,h4,⟨A,n,cp,rfl,n1,n2,n3,n4⟩⟩:=hx
 obtain rfl:cs=cIN z pt ix ci cg (.slice A n cp):=hcs
 dsimp only at h1 h2 h3 h4 n1 n4
 unfold wtIN at hl
 dsimp only at hl
 have m1:(pt.map bv++[Value.int .u32 (ix:Int)]).length=33:=by rw [List.length_append,List.length_map,h1]; rfl
 have m3:=lenIS h3
 have m4:=lenPG h4
 have hlo:=path_le pg (n:=1000000000000) (by omega)
 have hwi:=sum_ge (wt:=wtT) (λx=>by unfold wtT; omega) wi
 have hlen:(cIN z pt ix ci cg (.slice A n cp)).length=122:=by simp only [cIN,List.length_append,List.length_map,h1,m3,m4]; rfl
 refine Sy.enterT (args:=[ptr gw,.agg (cIN z pt ix ci cg (.slice A n cp)).toArray]) hw Tryz.func97 rfl kL ?_
 refine sC ?_
 refine sM 83 (cIN z pt ix ci cg (.slice A n cp)).toArray (λg3=>?_) kR (λw=>run_boxR rfl rfl (by kernel_rfl) hlen w)
 refine Sy.permS (M:=WB gw bad s (R++[(g3,83,(cIN z pt ix ci cg (.slice A n cp)).toArray)])) (List.Perm.of_eq (by simp only [List.append_assoc])) ?_
 have X0:XAt (rdC w0.inn [(g3,83,(cIN z pt ix ci cg (.slice A n cp)).toArray)]) g3 0 ((cIN z pt ix ci cg (.slice A n cp))):=λi u hu=>.inr ⟨_,_,List.mem_singleton.2 rfl,by rw [Nat.zero_add,List.getElem?_toArray]; exact hu⟩
 have X1:XAt (rdC w0.inn [(g3,83,(cIN z pt ix ci cg (.slice A n cp)).toArray)]) g3 1 ((pt.map bv++[.int .u32 (ix:Int)])++(ci++(cg++([.slice A n cp])))):=X0.right (n:=1) rfl
 have X2:XAt (rdC w0.inn [(g3,83,(cIN z pt ix ci cg (.slice A n cp)).toArray)]) g3 34 (ci++(cg++([.slice A n cp]))):=X1.right m1
 have X3:XAt (rdC w0.inn [(g3,83,(cIN z pt ix ci cg (.slice A n cp)).toArray)]) g3 84 (cg++([.slice A n cp])):=X2.right m3
 have X4:XAt (rdC w0.inn [(g3,83,(cIN z pt ix ci cg (.slice A n cp)).toArray)]) g3 121 ([.slice A n cp]):=X3.right m4
 refine sA ?_
 refine sp rfl<|sP (.pointer (some ⟨g3,0,none⟩))<|sS (.int .i64 z) (cellC (R:=[(g3,83,(cIN z pt ix ci cg (.slice A n cp)).toArray)]) (g:=g3) (f:=0) X0.one (λy hy=>inWB (List.mem_append_right R hy)) rfl Tryz.underlying3) ?_
 refine Sy.callT (λw hw=>smallW_any w0.inn gw bad s (R++[(g3,83,(cIN z pt ix ci cg (.slice A n cp)).toArray)]) b 1 2 z hb (by omega) w hw) (λu M hM=>?_)
 obtain ⟨s1,bad1,b1,q1,p1,rfl⟩:=hM
 have l1:b1.length≤b.length+1:=q1.len
 refine sA ?_
 refine sp rfl<|sP (.pointer (some ⟨g3,1,none⟩))<|sS (.agg (pt.map bv++[Value.int .u32 (ix:Int)]).toArray) (rowC (R:=[(g3,83,(cIN z pt ix ci cg (.slice A n cp)).toArray)]) (g:=g3) (f:=1) (k:=33) (cs:=pt.map bv++[Value.int .u32 (ix:Int)]) X1.left (λy hy=>inWB (List.mem_append_right R hy)) m1 rfl Tryz.underlying69) ?_
 refine Sy.callT (λw hw=>optW_any w0.inn gw bad1 s1 (R++[(g3,83,(cIN z pt ix ci cg (.slice A n cp)).toArray)]) b1 (pt,ix) _ ⟨rfl,h1,h2⟩ p1 (by omega) w hw) (λu M hM=>?_)
 obtain ⟨s2,bad2,b2,q2,p2,rfl⟩:=hM
 have l2:b2.length≤b1.length+36:=q2.len
 refine sA ?_
 refine sp rfl<|sP (.pointer (some ⟨g3,34,none⟩))<|sS (.agg ci.toArray) (rowC (R:=[(g3,83,(cIN z pt ix ci cg (.slice A n cp)).toArray)]) (g:=g3) (f:=34) (k:=50) (cs:=ci) X2.left (λy hy=>inWB (List.mem_append_right R hy)) m3 rfl Tryz.underlying78) ?_
 refine Sy.callT (λw hw=>issW_any w0.inn gw bad2 s2 (R++[(g3,83,(cIN z pt ix ci cg (.slice A n cp)).toArray)]) b2 iss ci h3 p2 (by omega) w hw) (λu M hM=>?_)
 obtain ⟨s3,bad3,b3,q3,p3,rfl⟩:=hM
 have l3:b3.length≤b2.length+wtIS iss:=q3.len
 refine sG<|Sy.seq ?_
 refine joinX (T:=Slc×Bool×Byt) (λ_=>[(0,ptr gw),(3,ptr g3)]) (λy=>WB gw y.2.1 y.1 (R++[(g3,83,(cIN z pt ix ci cg (.slice A n cp)).toArray)])) (λy=>Wrote (if z=2 then okPG pg else nulPG pg) (if z=2 then encPG pg else []) (wtPG pg) bad3 b3 y.2.1 y.2.2∧BS y.1 y.2.2) (λy hy=>?_) (λK=>?_)
 case refine_2 =>
  refine sC ?_
  by_cases hk:z=2
  ·subst hk
   refine sP (.pointer (some ⟨g3,0,none⟩))<|sS (.int .i64 2) (cellC (R:=[(g3,83,(cIN 2 pt ix ci cg (.slice A n cp)).toArray)]) (g:=g3) (f:=0) X0.one (λy hy=>inWB (List.mem_append_right R hy)) rfl Tryz.underlying3)<|sP (.bool true) ?_
   refine sG<|sT<|Sy.region ?_
   refine sp rfl<|sP (.pointer (some ⟨g3,84,none⟩))<|sS (.agg cg.toArray) (rowC (R:=[(g3,83,(cIN 2 pt ix ci cg (.slice A n cp)).toArray)]) (g:=g3) (f:=84) (k:=37) (cs:=cg) X3.left (λy hy=>inWB (List.mem_append_right R hy)) m4 rfl Tryz.underlying81) ?_
   refine Sy.callT (λw hw=>pegW_any w0.inn gw bad3 s3 (R++[(g3,83,(cIN 2 pt ix ci cg (.slice A n cp)).toArray)]) b3 pg cg h4 hlo p3 (by omega) w hw) (λu M hM=>?_)
   obtain ⟨s4,bad4,b4,q4,p4,rfl⟩:=hM
   have l4:b4.length≤b3.length+wtPG pg:=q4.len
   refine Sy.nil ?_
   exact leafX K (s4,bad4,b4) ⟨q4,p4⟩ (all_cons kR (all_cons kR all_nil)) (λ_ h=>h)
  obtain ⟨vt,vp,vs,rfl,e1,⟨A1,n1_,c1,rfl,g1_,_⟩,e3,e4,⟨A2,n2_,c2,rfl,g2_,_⟩,⟨A3,n3_,c3,rfl,g3_,_⟩⟩:=h4
  obtain ⟨ok,hok⟩:∃ ok,ok=nulPG pg:=⟨_,rfl⟩
  refine sP (.pointer (some ⟨g3,0,none⟩))<|sS (.int .i64 z) (cellC (R:=[(g3,83,(cIN z pt ix ci (cPG pg (.slice A1 n1_ c1) (.slice A2 n2_ c2) (.slice A3 n3_ c3)) (.slice A n cp)).toArray)]) (g:=g3) (f:=0) X0.one (λy hy=>inWB (List.mem_append_right R hy)) rfl Tryz.underlying3)<|sS (.bool false) (Quiet.pure (exec_int .eql _ _ _ .i64 _ _ _ rfl rfl rfl (int_eql _ _ _ _ _ (decide_eq_false hk)))) ?_
  refine sG<|sU<|Sy.region ?_
  refine sp rfl<|sP (.pointer (some ⟨g3,84,none⟩))<|sS (.agg (cPG pg (.slice A1 n1_ c1) (.slice A2 n2_ c2) (.slice A3 n3_ c3)).toArray) (rowC (R:=[(g3,83,(cIN z pt ix ci (cPG pg (.slice A1 n1_ c1) (.slice A2 n2_ c2) (.slice A3 n3_ c3)) (.slice A n cp)).toArray)]) (g:=g3) (f:=84) (k:=37) (cs:=cPG pg (.slice A1 n1_ c1) (.slice A2 n2_ c2) (.slice A3 n3_ c3)) X3.left (λy hy=>inWB (List.mem_append_right R hy)) m4 rfl Tryz.underlying81)<|sS (.bool ok) (qg (λw _=>by rw [hok]; exact none_any w pg A1 A2 A3 n1_ c1 n2_ c2 n3_ c3 g1_ g2_ g3_ e1)) ?_
  refine Sy.callT (λw hw=>mustW_any w0.inn gw bad3 ok s3 (R++[(g3,83,(cIN z pt ix ci (cPG pg (.slice A1 n1_ c1) (.slice A2 n2_ c2) (.slice A3 n3_ c3)) (.slice A n cp)).toArray)]) w hw) (λu M hM=>?_)
  subst hM
  refine Sy.nil ?_
  exact leafX K (s3,bad3 || !ok,b3) ⟨by rw [if_neg hk,if_neg hk,hok]; exact (Wrote.must _ bad3 b3).le (Nat.zero_le _),p3⟩ (all_cons kR (all_cons kR all_nil)) (λ_ h=>h)
 obtain ⟨s4,bad4,b4⟩:=y
 obtain ⟨q4,p4⟩:=hy
 dsimp only at q4 p4 ⊢
 have l4:b4.length≤b3.length+wtPG pg:=q4.len
 refine Sy.then_<|sC ?_
 refine sp rfl<|sP (.pointer (some ⟨g3,121,none⟩))<|sS (.slice A n cp) (cellC (R:=[(g3,83,(cIN z pt ix ci cg (.slice A n cp)).toArray)]) (g:=g3) (f:=121) X4.one (λy hy=>inWB (List.mem_append_right R hy)) rfl Tryz.underlying66)<|sP (.int .i64 (n:Int)) ?_
 refine Sy.callT (λw hw=>manyW_any w0.inn gw bad4 s4 (R++[(g3,83,(cIN z pt ix ci cg (.slice A n cp)).toArray)]) b4 n 16 (by omega) (by decide) p4 (by omega) w hw) (λu M hM=>?_)
 obtain ⟨s5,bad5,b5,q5,p5,rfl⟩:=hM
 have l5:b5.length≤b4.length+9:=q5.len
 refine sA ?_
 refine sP (.int .i64 0) ?_
 refine sG<|Sy.block ?_
 have hsum6:∀ i,((wi.take i).map wtT).sum≤(wi.map wtT).sum:=λi=>by
  have e:=congrArg (λz=>(z.map wtT).sum) (List.take_append_drop i wi)
  simp only [List.map_append,List.sum_append] at e
  omega
 refine Sy.loopT (Y:=Slc×Bool×Byt) n (λi _=>[(0,ptr gw),(3,ptr g3),(4,.int .i64 (i:Int))]) (λ_ y=>WB gw y.2.1 y.1 (R++[(g3,83,(cIN z pt ix ci cg (.slice A n cp)).toArray)])) (λi y=>Wrote ((wi.take i).all ok256) ((wi.take i).flatMap encT) (((wi.take i).map wtT).sum) bad5 b5 y.2.1 y.2.2∧BS y.1 y.2.2) (s5,bad5,b5) ⟨by
  have e:=Wrote.raw [] bad5 b5 (k:=0) (Nat.le_refl 0)
  rw [List.append_nil] at e
  exact e,p5⟩ (all_cons kR (all_cons kR (all_cons kR all_nil))) (λ_ h=>h) (λi y hi hy=>?_)
 obtain ⟨s6,bad6,b6⟩:=y
 obtain ⟨q6,p6⟩:=hy
 dsimp only at q6 p6 ⊢
 refine Sy.seq<|sC ?_
 obtain ⟨t9,ht9⟩:∃ z:Bool,z=decide (i<n):=⟨_,rfl⟩
 refine sp rfl<|sP (.pointer (some ⟨g3,121,none⟩))<|sS (.slice A n cp) (cellC (R:=[(g3,83,(cIN z pt ix ci cg (.slice A n cp)).toArray)]) (g:=g3) (f:=121) X4.one (λy hy=>inWB (List.mem_append_right R hy)) rfl Tryz.underlying66)<|sP (.int .i64 (n:Int))<|sS (.bool t9) (Quiet.pure (exec_int .lss _ _ _ .i64 _ _ _ rfl rfl rfl (int_lss _ _ _ _ _ (by rw [ht9]; exact decide_eq_decide.2 (by omega))))) ?_
 refine sG ?_
 cases t9
 case' false =>
  have z3:¬ i<n:=of_decide_eq_false ht9.symm
  obtain rfl:n=i:=by omega
  rw [List.take_of_length_le (by omega)] at q6
  have l6:b6.length≤b5.length+(wi.map wtT).sum:=q6.len
  refine sU<|Sy.exit<|Sy.then_exit<|Sy.then_exit<|Sy.in_exit ?_
  have q:=q1.then_ (q2.then_ (q3.then_ (q4.then_ (q5.then_ q6))))
  have e:okIN ⟨z,pt,ix,iss,pg,wi⟩=(okS 1 2 z && (okIS iss && ((if z=2 then okPG pg else nulPG pg) && (decide (n≤16) && wi.all ok256)))):=by rw [← n1]; rfl
  have e2:encIN ⟨z,pt,ix,iss,pg,wi⟩=[octB z]++(pt++(nb 4 ix++(encIS iss++((if z=2 then encPG pg else [])++(varB n++wi.flatMap encT))))):=by rw [← n1]; rfl
  rw [Bool.true_and] at q
  unfold encOP at q
  simp only [List.append_assoc] at q
  exact Sy.retT0 rfl (WB gw bad6 s6 R) (λ_ h=>dropW h) (λ_=>⟨s6,bad6,b6,by rw [e,e2]; exact q,p6,rfl⟩)
 have z3:i<n:=of_decide_eq_true ht9.symm
 obtain ⟨x,hx⟩:∃ x,wi[i]? = some x:=⟨_,List.getElem?_eq_getElem (by omega)⟩
 obtain ⟨g,o,hA,hq⟩:=n4 (by intro e; rw [e] at hx; cases hx)
 obtain ⟨cx,y1,y2,y3,y4⟩:=hq i x hx
 obtain ⟨vx,rfl,hvx⟩:=y3
 have d1:XAt (rdC w0.inn []) g (o+i*1) _:=λj u hu=>.inl (y4 j u hu)
 have htk:wi.take (i+1)=wi.take i++[x]:=by rw [List.take_add_one,hx]; rfl
 have hsi:=hsum6 (i+1)
 rw [htk] at hsi
 simp only [List.map_append,List.sum_append,List.map_cons,List.map_nil,List.sum_cons,List.sum_nil] at hsi
 have hyl:=q6.len
 refine sT<|Sy.skip<|Sy.then_<|Sy.seq<|Sy.block<|Sy.region ?_
 refine sp rfl<|sP (.pointer (some ⟨g3,121,none⟩))<|sS (.slice A n cp) (cellC (R:=[(g3,83,(cIN z pt ix ci cg (.slice A n cp)).toArray)]) (g:=g3) (f:=121) X4.one (λy hy=>inWB (List.mem_append_right R hy)) rfl Tryz.underlying66)<|sp rfl<|sS (.pointer (some ⟨g,o+i*1,none⟩)) (Quiet.pure (exec_atO 66 _ _ _ A g o n cp i 1 .i64 hA rfl rfl rfl Tryz.underlying66 kF z3))<|sS vx (cellC (R:=[]) d1.one (λy hy=>by cases hy) rfl Tryz.underlying29) ?_
 refine Sy.callT (λw hw=>textW_any w0.inn gw bad6 s6 (R++[(g3,83,(cIN z pt ix ci cg (.slice A n cp)).toArray)]) b6 vx x 256 (by decide) p6 hvx (by have e9:wtT x=9+x.length:=rfl; omega) w hw) (λv M hM=>?_)
 obtain ⟨s9,bad9,b9,q9,p9,rfl⟩:=hM
 refine Sy.nil<|Sy.in_<|Sy.then_<|Sy.region ?_
 refine sp rfl<|sS (.int .i64 ((i+1:Nat):Int)) (Quiet.pure (exec_int .add _ _ _ .i64 _ _ _ rfl rfl rfl (int_add _ _ _ _ _ ((wrap_i64 (by omega) (by omega)).trans (by omega)))))<|sp rfl ?_
 refine Sy.nil ?_
 have hW:=q6.then_ q9
 have hW':Wrote ((wi.take (i+1)).all ok256) ((wi.take (i+1)).flatMap encT) (((wi.take (i+1)).map wtT).sum) bad5 b5 bad9 b9:=by
  rw [htk]
  simp only [List.all_append,List.flatMap_append,List.map_append,List.sum_append,List.all_cons,List.all_nil,List.flatMap_cons,List.flatMap_nil,List.map_cons,List.map_nil,List.sum_cons,List.sum_nil,Bool.and_true,List.append_nil,Nat.add_zero]
  first | exact hW | simpa only [Bool.and_true] using hW
 exact Sy.againT (s9,bad9,b9) z3 ⟨hW',p9⟩ (all_cons kR (all_cons kR (all_cons kR all_nil))) (λw h=>h)
theorem txW_any (w0:Base) (gw:Nat) (bad:Bool) (s:Slc) (R:Blocks) (b:Byt) (x:MTr) (cs:List Value) (hx:repTR (rdW w0.world) cs x) (hb:BS s b) (hl:b.length+wtTR x≤1000000000000) (w:World) (hw:St w0 w (WB gw bad s R)) :
  Calls Tryz.prog 53 #[ptr gw,.agg cs.toArray] w (Turns w0 (Wd gw R (okTR x) (encTR x) (wtTR x) bad b)):=by
 obtain ⟨af,is,os⟩:=x
 obtain ⟨vi,vo,hcs,h1,⟨A,n,cp,rfl,n1,m2,m3,n4⟩,⟨A2,n2,cp2,rfl,k1,k2,k3,k4⟩⟩:=hx
 obtain rfl:cs=cTX af (.slice A n cp) (.slice A2 n2 cp2):=hcs
 dsimp only at h1 n1 n4 k1 k4
 unfold wtTR at hl
 dsimp only at hl
 have hi9:=sum_ge (wt:=wtIN) (λx=>by unfold wtIN; omega) is
 have ho9:=sum_ge (wt:=wtOU) (λx=>by unfold wtOU; omega) os
 have hlen:(cTX af (.slice A n cp) (.slice A2 n2 cp2)).length=3:=rfl
 refine Sy.enterT (args:=[ptr gw,.agg (cTX af (.slice A n cp) (.slice A2 n2 cp2)).toArray]) hw Tryz.func53 rfl kL ?_
 refine sC ?_
 refine sM 26 (cTX af (.slice A n cp) (.slice A2 n2 cp2)).toArray (λg3=>?_) kR (λw=>run_boxR rfl rfl (by kernel_rfl) hlen w)
 refine Sy.permS (M:=WB gw bad s (R++[(g3,26,(cTX af (.slice A n cp) (.slice A2 n2 cp2)).toArray)])) (List.Perm.of_eq (by simp only [List.append_assoc])) ?_
 have X0:XAt (rdC w0.inn [(g3,26,(cTX af (.slice A n cp) (.slice A2 n2 cp2)).toArray)]) g3 0 ((cTX af (.slice A n cp) (.slice A2 n2 cp2))):=λi u hu=>.inr ⟨_,_,List.mem_singleton.2 rfl,by rw [Nat.zero_add,List.getElem?_toArray]; exact hu⟩
 have X1:XAt (rdC w0.inn [(g3,26,(cTX af (.slice A n cp) (.slice A2 n2 cp2)).toArray)]) g3 1 ([.slice A n cp]++([.slice A2 n2 cp2])):=X0.right (n:=1) rfl
 have X2:XAt (rdC w0.inn [(g3,26,(cTX af (.slice A n cp) (.slice A2 n2 cp2)).toArray)]) g3 2 ([.slice A2 n2 cp2]):=X1.right (n:=1) rfl
 refine sA ?_
 refine sp rfl<|sP (.pointer (some ⟨g3,0,none⟩))<|sS (.int .u64 (af:Int)) (cellC (R:=[(g3,26,(cTX af (.slice A n cp) (.slice A2 n2 cp2)).toArray)]) (g:=g3) (f:=0) X0.one (λy hy=>inWB (List.mem_append_right R hy)) rfl Tryz.underlying22) ?_
 refine Sy.callT (λw hw=>numWd 8 (by decide) w0.inn gw bad s (R++[(g3,26,(cTX af (.slice A n cp) (.slice A2 n2 cp2)).toArray)]) b af h1 hb (by omega) w hw) (λu M hM=>?_)
 obtain ⟨s1,bad1,b1,q1,p1,rfl⟩:=hM
 have l1:b1.length≤b.length+8:=q1.len
 refine sA ?_
 refine sp rfl<|sP (.pointer (some ⟨g3,1,none⟩))<|sS (.slice A n cp) (cellC (R:=[(g3,26,(cTX af (.slice A n cp) (.slice A2 n2 cp2)).toArray)]) (g:=g3) (f:=1) X1.one (λy hy=>inWB (List.mem_append_right R hy)) rfl Tryz.underlying23)<|sP (.int .i64 (n:Int)) ?_
 refine Sy.callT (λw hw=>manyW_any w0.inn gw bad1 s1 (R++[(g3,26,(cTX af (.slice A n cp) (.slice A2 n2 cp2)).toArray)]) b1 n 16 (by omega) (by decide) p1 (by omega) w hw) (λu M hM=>?_)
 obtain ⟨s2,bad2,b2,q2,p2,rfl⟩:=hM
 have l2:b2.length≤b1.length+9:=q2.len
 refine sG<|Sy.seq<|sC ?_
 refine sP (.int .i64 0) ?_
 refine sG<|Sy.block ?_
 have hsum3:∀ i,((is.take i).map wtIN).sum≤(is.map wtIN).sum:=λi=>by
  have e:=congrArg (λz=>(z.map wtIN).sum) (List.take_append_drop i is)
  simp only [List.map_append,List.sum_append] at e
  omega
 refine Sy.loopT (Y:=Slc×Bool×Byt) n (λi _=>[(0,ptr gw),(3,ptr g3),(4,.int .i64 (i:Int))]) (λ_ y=>WB gw y.2.1 y.1 (R++[(g3,26,(cTX af (.slice A n cp) (.slice A2 n2 cp2)).toArray)])) (λi y=>Wrote ((is.take i).all okIN) ((is.take i).flatMap encIN) (((is.take i).map wtIN).sum) bad2 b2 y.2.1 y.2.2∧BS y.1 y.2.2) (s2,bad2,b2) ⟨by
  have e:=Wrote.raw [] bad2 b2 (k:=0) (Nat.le_refl 0)
  rw [List.append_nil] at e
  exact e,p2⟩ (all_cons kR (all_cons kR (all_cons kR all_nil))) (λ_ h=>h) (λi y hi hy=>?_)
 obtain ⟨s3,bad3,b3⟩:=y
 obtain ⟨q3,p3⟩:=hy
 dsimp only at q3 p3 ⊢
 refine Sy.seq<|sC ?_
 obtain ⟨t9,ht9⟩:∃ z:Bool,z=decide (i<n):=⟨_,rfl⟩
 refine sp rfl<|sP (.pointer (some ⟨g3,1,none⟩))<|sS (.slice A n cp) (cellC (R:=[(g3,26,(cTX af (.slice A n cp) (.slice A2 n2 cp2)).toArray)]) (g:=g3) (f:=1) X1.one (λy hy=>inWB (List.mem_append_right R hy)) rfl Tryz.underlying23)<|sP (.int .i64 (n:Int))<|sS (.bool t9) (Quiet.pure (exec_int .lss _ _ _ .i64 _ _ _ rfl rfl rfl (int_lss _ _ _ _ _ (by rw [ht9]; exact decide_eq_decide.2 (by omega))))) ?_
 refine sG ?_
 cases t9
 case' false =>
  have z3:¬ i<n:=of_decide_eq_false ht9.symm
  obtain rfl:n=i:=by omega
  rw [List.take_of_length_le (by omega)] at q3
  have l3:b3.length≤b2.length+(is.map wtIN).sum:=q3.len
  refine sU<|Sy.exit<|Sy.then_exit<|Sy.then_exit<|Sy.in_exit<|Sy.then_<|sC ?_
  refine sp rfl<|sP (.pointer (some ⟨g3,2,none⟩))<|sS (.slice A2 n2 cp2) (cellC (R:=[(g3,26,(cTX af (.slice A n cp) (.slice A2 n2 cp2)).toArray)]) (g:=g3) (f:=2) X2.one (λy hy=>inWB (List.mem_append_right R hy)) rfl Tryz.underlying24)<|sP (.int .i64 (n2:Int)) ?_
  refine Sy.callT (λw hw=>manyW_any w0.inn gw bad3 s3 (R++[(g3,26,(cTX af (.slice A n cp) (.slice A2 n2 cp2)).toArray)]) b3 n2 16 (by omega) (by decide) p3 (by omega) w hw) (λu M hM=>?_)
  obtain ⟨s4,bad4,b4,q4,p4,rfl⟩:=hM
  have l4:b4.length≤b3.length+9:=q4.len
  refine sA ?_
  refine sP (.int .i64 0) ?_
  refine sG<|Sy.block ?_
  have hsum5:∀ i,((os.take i).map wtOU).sum≤(os.map wtOU).sum:=λi=>by
   have e:=congrArg (λz=>(z.map wtOU).sum) (List.take_append_drop i os)
   simp only [List.map_append,List.sum_append] at e
   omega
  refine Sy.loopT (Y:=Slc×Bool×Byt) n2 (λi _=>[(0,ptr gw),(3,ptr g3),(5,.int .i64 (i:Int))]) (λ_ y=>WB gw y.2.1 y.1 (R++[(g3,26,(cTX af (.slice A n cp) (.slice A2 n2 cp2)).toArray)])) (λi y=>Wrote ((os.take i).all okOU) ((os.take i).flatMap encOU) (((os.take i).map wtOU).sum) bad4 b4 y.2.1 y.2.2∧BS y.1 y.2.2) (s4,bad4,b4) ⟨by
   have e:=Wrote.raw [] bad4 b4 (k:=0) (Nat.le_refl 0)
   rw [List.append_nil] at e
   exact e,p4⟩ (all_cons kR (all_cons kR (all_cons kR all_nil))) (λ_ h=>h) (λi y hi hy=>?_)
  obtain ⟨s5,bad5,b5⟩:=y
  obtain ⟨q5,p5⟩:=hy
  dsimp only at q5 p5 ⊢
  refine Sy.seq<|sC ?_
  obtain ⟨t9,ht9⟩:∃ z:Bool,z=decide (i<n2):=⟨_,rfl⟩
  refine sp rfl<|sP (.pointer (some ⟨g3,2,none⟩))<|sS (.slice A2 n2 cp2) (cellC (R:=[(g3,26,(cTX af (.slice A n cp) (.slice A2 n2 cp2)).toArray)]) (g:=g3) (f:=2) X2.one (λy hy=>inWB (List.mem_append_right R hy)) rfl Tryz.underlying24)<|sP (.int .i64 (n2:Int))<|sS (.bool t9) (Quiet.pure (exec_int .lss _ _ _ .i64 _ _ _ rfl rfl rfl (int_lss _ _ _ _ _ (by rw [ht9]; exact decide_eq_decide.2 (by omega))))) ?_
  refine sG ?_
  cases t9
  case' false =>
   have z3:¬ i<n2:=of_decide_eq_false ht9.symm
   obtain rfl:n2=i:=by omega
   rw [List.take_of_length_le (by omega)] at q5
   have l5:b5.length≤b4.length+(os.map wtOU).sum:=q5.len
   refine sU<|Sy.exit<|Sy.then_exit<|Sy.then_exit<|Sy.in_exit ?_
   have q:=q1.then_ ((q2.then_ q3).then_ (q4.then_ q5))
   rw [Bool.true_and, ← n1, ← k1] at q
   exact Sy.retT0 rfl (WB gw bad5 s5 R) (λ_ h=>dropW h) (λ_=>⟨s5,bad5,b5,q,p5,rfl⟩)
  have z3:i<n2:=of_decide_eq_true ht9.symm
  obtain ⟨x,hx⟩:∃ x,os[i]? = some x:=⟨_,List.getElem?_eq_getElem (by omega)⟩
  obtain ⟨g,o,hA,hq⟩:=k4 (by intro e; rw [e] at hx; cases hx)
  obtain ⟨cx,y1,y2,y3,y4⟩:=hq i x hx
  have d1:XAt (rdC w0.inn []) g (o+i*58) _:=λj u hu=>.inl (y4 j u hu)
  have htk:os.take (i+1)=os.take i++[x]:=by rw [List.take_add_one,hx]; rfl
  have hsi:=hsum5 (i+1)
  rw [htk] at hsi
  simp only [List.map_append,List.sum_append,List.map_cons,List.map_nil,List.sum_cons,List.sum_nil] at hsi
  have hyl:=q5.len
  refine sT<|Sy.skip<|Sy.then_<|Sy.seq<|Sy.block<|Sy.region ?_
  refine sp rfl<|sP (.pointer (some ⟨g3,2,none⟩))<|sS (.slice A2 n2 cp2) (cellC (R:=[(g3,26,(cTX af (.slice A n cp) (.slice A2 n2 cp2)).toArray)]) (g:=g3) (f:=2) X2.one (λy hy=>inWB (List.mem_append_right R hy)) rfl Tryz.underlying24)<|sp rfl<|sS (.pointer (some ⟨g,o+i*58,none⟩)) (Quiet.pure (exec_atO 24 _ _ _ A2 g o n2 cp2 i 58 .i64 hA rfl rfl rfl Tryz.underlying24 kF z3))<|sS (.agg cx.toArray) (rowC (R:=[]) d1 (λy hy=>by cases hy) y1 rfl Tryz.underlying88) ?_
  refine Sy.callT (λw hw=>outW_any w0.inn gw bad5 s5 (R++[(g3,26,(cTX af (.slice A n cp) (.slice A2 n2 cp2)).toArray)]) b5 x cx y3 p5 (by omega) w hw) (λv M hM=>?_)
  obtain ⟨s9,bad9,b9,q9,p9,rfl⟩:=hM
  refine Sy.nil<|Sy.in_<|Sy.then_<|Sy.region ?_
  refine sp rfl<|sS (.int .i64 ((i+1:Nat):Int)) (Quiet.pure (exec_int .add _ _ _ .i64 _ _ _ rfl rfl rfl (int_add _ _ _ _ _ ((wrap_i64 (by omega) (by omega)).trans (by omega)))))<|sp rfl ?_
  refine Sy.nil ?_
  have hW:=q5.then_ q9
  have hW':Wrote ((os.take (i+1)).all okOU) ((os.take (i+1)).flatMap encOU) (((os.take (i+1)).map wtOU).sum) bad4 b4 bad9 b9:=by
   rw [htk]
   simp only [List.all_append,List.flatMap_append,List.map_append,List.sum_append,List.all_cons,List.all_nil,List.flatMap_cons,List.flatMap_nil,List.map_cons,List.map_nil,List.sum_cons,List.sum_nil,Bool.and_true,List.append_nil,Nat.add_zero]
   first | exact hW | simpa only [Bool.and_true] using hW
  exact Sy.againT (s9,bad9,b9) z3 ⟨hW',p9⟩ (all_cons kR (all_cons kR (all_cons kR all_nil))) (λw h=>h)
 have z3:i<n:=of_decide_eq_true ht9.symm
 obtain ⟨x,hx⟩:∃ x,is[i]? = some x:=⟨_,List.getElem?_eq_getElem (by omega)⟩
 obtain ⟨g,o,hA,hq⟩:=n4 (by intro e; rw [e] at hx; cases hx)
 obtain ⟨cx,y1,y2,y3,y4⟩:=hq i x hx
 have d1:XAt (rdC w0.inn []) g (o+i*122) _:=λj u hu=>.inl (y4 j u hu)
 have htk:is.take (i+1)=is.take i++[x]:=by rw [List.take_add_one,hx]; rfl
 have hsi:=hsum3 (i+1)
 rw [htk] at hsi
 simp only [List.map_append,List.sum_append,List.map_cons,List.map_nil,List.sum_cons,List.sum_nil] at hsi
 have hyl:=q3.len
 refine sT<|Sy.skip<|Sy.then_<|Sy.seq<|Sy.block<|Sy.region ?_
 refine sp rfl<|sP (.pointer (some ⟨g3,1,none⟩))<|sS (.slice A n cp) (cellC (R:=[(g3,26,(cTX af (.slice A n cp) (.slice A2 n2 cp2)).toArray)]) (g:=g3) (f:=1) X1.one (λy hy=>inWB (List.mem_append_right R hy)) rfl Tryz.underlying23)<|sp rfl<|sS (.pointer (some ⟨g,o+i*122,none⟩)) (Quiet.pure (exec_atO 23 _ _ _ A g o n cp i 122 .i64 hA rfl rfl rfl Tryz.underlying23 kF z3))<|sS (.agg cx.toArray) (rowC (R:=[]) d1 (λy hy=>by cases hy) y1 rfl Tryz.underlying83) ?_
 refine Sy.callT (λw hw=>inW_any w0.inn gw bad3 s3 (R++[(g3,26,(cTX af (.slice A n cp) (.slice A2 n2 cp2)).toArray)]) b3 x cx y3 p3 (by omega) w hw) (λv M hM=>?_)
 obtain ⟨s9,bad9,b9,q9,p9,rfl⟩:=hM
 refine Sy.nil<|Sy.in_<|Sy.then_<|Sy.region ?_
 refine sp rfl<|sS (.int .i64 ((i+1:Nat):Int)) (Quiet.pure (exec_int .add _ _ _ .i64 _ _ _ rfl rfl rfl (int_add _ _ _ _ _ ((wrap_i64 (by omega) (by omega)).trans (by omega)))))<|sp rfl ?_
 refine Sy.nil ?_
 have hW:=q3.then_ q9
 have hW':Wrote ((is.take (i+1)).all okIN) ((is.take (i+1)).flatMap encIN) (((is.take (i+1)).map wtIN).sum) bad2 b2 bad9 b9:=by
  rw [htk]
  simp only [List.all_append,List.flatMap_append,List.map_append,List.sum_append,List.all_cons,List.all_nil,List.flatMap_cons,List.flatMap_nil,List.map_cons,List.map_nil,List.sum_cons,List.sum_nil,Bool.and_true,List.append_nil,Nat.add_zero]
  first | exact hW | simpa only [Bool.and_true] using hW
 exact Sy.againT (s9,bad9,b9) z3 ⟨hW',p9⟩ (all_cons kR (all_cons kR (all_cons kR all_nil))) (λw h=>h)
end Wr
end
section
namespace Wr
open Go.RowKit Sy
set_option maxRecDepth 100000
set_option maxHeartbeats 4000000
theorem txR_w (w:World) (x:MTr) (cs:List Value) (hx:repTR (rdW w) cs x) (hwt:wtTR x≤1000000000000) :
  Calls Tryz.prog 25 #[.agg cs.toArray] w (GetsN w (BytE (okTR x) (encTR x))):=by
 have hlen:cs.length=3:=by
  exact lenTR hx
 refine Sy.enter (args:=[.agg cs.toArray]) Tryz.func25 rfl kL ?_
 refine sC ?_
 refine sM 26 cs.toArray (λg1=>?_) kR (λw=>run_boxR rfl rfl (by kernel_rfl) hlen w)
 refine sP (.slice none 0 0)<|sP (.int .i64 0) ?_
 refine sA ?_
 refine sP (.agg #[.slice none 0 0,.bool false])<|sM 115 #[.slice none 0 0,.bool false] (λgw=>?_)
 refine sp rfl ?_
 refine sA ?_
 refine Sy.permS (M:=WB gw false nilS [(g1,26,cs.toArray)]) (Sy.perm_at [1,0] (by kernel_rfl) (by rfl)) ?_
 refine sp rfl<|sS (.agg cs.toArray) (Quiet.mid 1 g1 0 3 26 26 cs cs _ _ rfl kR rfl Tryz.underlying26 rfl kR (by rw [List.drop_zero,List.take_of_length_le (by omega)]) (by omega)) ?_
 refine Sy.callT (λw' hw=>txW_any (Base.of w) gw false nilS [(g1,26,cs.toArray)] [] x cs hx BS.nil (by show 0+_≤_; omega) w' hw) (λu M hM=>?_)
 obtain ⟨s',bad,b',q1,q2,rfl⟩:=hM
 have qb:=q1.bad
 refine sA ?_
 refine sp rfl ?_
 refine Sy.callT (λw' hw=>doneW_any (Base.of w) gw bad s' [(g1,26,cs.toArray)] w' hw) (λu M hM=>?_)
 obtain ⟨rfl,rfl⟩:=hM
 cases bad
 ·have hok:okTR x=true:=by
   cases h:okTR x with
   | true=>rfl
   | false=>rw [h] at qb; cases qb
  have hbb:b'=encTR x:=q1.bytes rfl
  rw [if_neg (by decide)]
  refine sp rfl<|sp rfl<|sp rfl<|sp rfl ?_
  refine sG<|Sy.ret ?_
  exact Sy.retGM2 s'.bl rfl (.inl (show _=_ by kernel_rfl)) (.inl (show _=_ by kernel_rfl)) (λ_ h=>h.less ((List.sublist_append_left _ _).trans (List.sublist_append_right _ _))) (.inl ⟨hok,_,rfl,by rw [← hbb]; exact q2.as⟩)
 ·have hok:okTR x=false:=by
   cases h:okTR x with
   | false=>rfl
   | true=>rw [h] at qb; cases qb
  rw [if_pos rfl]
  refine sp rfl<|sp rfl<|sp rfl<|sp rfl ?_
  refine sG<|Sy.ret ?_
  exact Sy.retGM2 [] rfl (.inl (show _=_ by kernel_rfl)) (.inl (show _=_ by kernel_rfl)) (λ_ h=>h.none) (.inr ⟨hok,rfl,rfl⟩)
end Wr
end
section
namespace Wr
open Go.RowKit Sy
set_option maxRecDepth 100000
set_option maxHeartbeats 4000000
def m0:MTx:=⟨1,[⟨2,List.replicate 32 0⟩]⟩
def b49:Byt:=encMT m0
theorem m0_ok:okMT m0=true:=by kernel_rfl
theorem b49_len:b49.length=49:=by kernel_rfl
theorem m0_rd:allP rdMT b49=some m0:=by kernel_rfl
theorem m0_at {w0:Base} {w:World} {L:Blocks} {g:Nat} {t:TypeId} (hw:St w0 w L) (hL:(g,t,(Value.int .u64 2::Z32).toArray)∈L):repMT (rdW w) [.int .u64 1,.slice (some ⟨g,0,none⟩) 1 1] m0:=by
 refine ⟨_,rfl,(show 1<18446744073709551616 by decide),_,_,_,rfl,rfl,Nat.le_refl _,(by decide),λ_=>⟨g,0,rfl,λj x hx=>?_⟩⟩
 cases j with
 | succ j=>cases hx
 | zero =>
  cases hx
  refine ⟨Value.int .u64 2::Z32,rfl,λu hu=>?_,⟨rfl,by decide,rfl⟩,λi u hu=>?_⟩
  ·rcases List.mem_cons.1 hu with rfl | hu
   ·rfl
   ·obtain ⟨y,_,rfl⟩:=List.mem_map.1 hu; rfl
  ·exact rdB_world hw (R:=[(g,t,(Value.int .u64 2::Z32).toArray)]) (λb hb=>by rw [List.mem_singleton.1 hb]; exact hL) _ _ _ ⟨t,_,List.mem_singleton.2 rfl,by rw [Nat.zero_mul,Nat.add_zero,Nat.zero_add,List.getElem?_toArray]; exact hu⟩
theorem alive12 (w:World):Calls Tryz.prog 12 #[] w (Gets w (.bool true)):=by
 refine Sy.enter (args:=[]) Tryz.func12 rfl kL ?_
 refine sC ?_
 refine sP (.bool false) ?_
 refine sA ?_
 refine sP (.agg (Value.int .u64 2::Z32).toArray) ?_
 refine Sy.make kR 58 (Value.int .u64 2::Z32).toArray (λg=>.slice (some ⟨g,0,none⟩) 1 1) (Makes.one 59 58 _ _ 33 _ (Value.int .u64 2::Z32) rfl kR Tryz.underlying59 info_mo rfl rfl rfl (by decide) (by decide)) (λg=>?_)
 refine sP (.agg #[.int .u64 1,.slice (some ⟨g,0,none⟩) 1 1]) ?_
 refine Sy.callN kR 36 #[.agg #[.int .u64 1,.slice (some ⟨g,0,none⟩) 1 1]] kF (BytE (okMT m0) b49) (λw' hw=>ex_mtx (rep:=repMT) (ok:=okMT) (enc:=encMT) (wt:=wtMT) monoMT mainTx_w w' [.int .u64 1,.slice (some ⟨g,0,none⟩) 1 1] m0 (m0_at hw (List.mem_append_right _ (List.mem_singleton.2 rfl))) rfl (by decide)) (λv M1 hM=>?_)
 rcases hM with ⟨_,u,rfl,hN⟩ | ⟨h,_⟩
 case inr=>rw [m0_ok] at h; cases h
 have hN0:=hN.byt
 obtain ⟨A,n,cp,rfl,h2,h3,h4,h5⟩:=hN.byt
 obtain rfl:49=n:=by rw [← h2]; exact b49_len.symm
 obtain ⟨gb,ob,rfl,hq⟩:=h5 (by intro e; have q:=b49_len; rw [e] at q; cases q)
 refine sp rfl<|sp rfl<|sp rfl<|sp rfl<|sp rfl ?_
 refine sA ?_
 refine sp rfl ?_
 refine Sy.callN kR 37 #[.slice (some ⟨gb,ob,none⟩) 49 cp] kF (RdE 2 ([Value.int .u64 0]++[Value.slice none 0 0]) repMT (allP rdMT b49)) (λw' hw=>rdx_mtx (rep:=repMT) (p:=rdMT) monoMT (@oneMT) mainTx_r w' _ b49 (hN0.le (rdB_world hw (λb hb=>List.mem_append_right _ hb))) (by rw [b49_len]; decide)) (λv M2 hM=>?_)
 rcases hM with ⟨x,cs,hx,rfl,hcs,hrep⟩ | ⟨h,_⟩
 case inr=>rw [m0_rd] at h; cases h
 rw [m0_rd] at hx
 obtain rfl:m0=x:=by injection hx
 obtain ⟨v2,rfl,_,A2,n2,c2,rfl,k2,k3,k4,k5⟩:=hrep
 obtain rfl:1=n2:=k2
 obtain ⟨g2,o2,rfl,hq2⟩:=k5 (by intro e; cases e)
 obtain ⟨cs0,d1,d2,⟨rfl,_,_⟩,d3⟩:=hq2 0 _ rfl
 refine sp rfl<|sp rfl<|sp rfl ?_
 refine sM 61 #[.int .u64 0,.slice none 0 0] (λg3=>?_)
 refine Sy.permS List.perm_append_comm ?_
 refine sw 0 rfl #[.int .u64 1,.slice (some ⟨g2,o2,none⟩) 1 c2] (wA rfl)<|sp rfl ?_
 refine sA ?_
 refine sP (.agg zOut.toArray) ?_
 refine Sy.callN kR 38 #[.agg zOut.toArray] kF (BytE false []) (λw' hw=>ex_outz (rep:=repOZ) (ok:=λ_=>false) (enc:=λ_=>[]) (wt:=λ_=>1) monoOZ outz_w w' zOut () rfl rfl (by decide)) (λv M3 hM=>?_)
 rcases hM with ⟨h,_⟩ | ⟨_,rfl,rfl⟩
 case inl=>cases h
 rw [List.append_nil]
 refine sp rfl<|sp rfl<|sp rfl<|sp rfl<|sp rfl ?_
 obtain ⟨X,hX⟩:∃ X,X=[(g,58,(Value.int .u64 2::Z32).toArray)]++M1++M2:=⟨_,rfl⟩
 have i1:∀ b∈M1,b∈(g3,61,#[.int .u64 1,.slice (some ⟨g2,o2,none⟩) 1 c2])::([]++[(g,58,(Value.int .u64 2::Z32).toArray)]++M1++M2):=λb hb=>by simp [hb]
 have i2:∀ b∈M2,b∈(g3,61,#[.int .u64 1,.slice (some ⟨g2,o2,none⟩) 1 c2])::([]++[(g,58,(Value.int .u64 2::Z32).toArray)]++M1++M2):=λb hb=>by simp [hb]
 refine sA ?_
 refine sp rfl<|sP (.bool true)<|sp rfl<|sp rfl<|sP (.int .i64 49)<|sP (.bool true)<|sP (.bool true) ?_
 refine sp rfl<|sp rfl<|sS (.pointer (some ⟨gb,ob+7*1,none⟩)) (Quiet.pure (exec_atO 29 _ _ _ (some ⟨gb,ob,none⟩) gb ob 49 cp 7 1 .i64 rfl rfl rfl rfl Tryz.underlying29 kF (by decide)))<|sS (bv 1) (cellC (w0:=Base.of w) (R:=M1) (g:=gb) (f:=ob+7*1) (v:=bv 1) (.inr (hq 7 1 (by kernel_rfl))) i1 rfl Tryz.underlying5)<|sP (.bool true)<|sP (.bool true) ?_
 refine sp rfl<|sp rfl<|sS (.pointer (some ⟨gb,ob+8*1,none⟩)) (Quiet.pure (exec_atO 29 _ _ _ (some ⟨gb,ob,none⟩) gb ob 49 cp 8 1 .i64 rfl rfl rfl rfl Tryz.underlying29 kF (by decide)))<|sS (bv 1) (cellC (w0:=Base.of w) (R:=M1) (g:=gb) (f:=ob+8*1) (v:=bv 1) (.inr (hq 8 1 (by kernel_rfl))) i1 rfl Tryz.underlying5)<|sP (.bool true)<|sP (.bool true) ?_
 refine sp rfl<|sp rfl<|sP (.bool true)<|sP (.bool true) ?_
 refine sp rfl<|sP (.pointer (some ⟨g3,0,none⟩))<|sS (.int .u64 1) (qc 0 0 rfl rfl Tryz.underlying22)<|sP (.bool true)<|sP (.bool true) ?_
 refine sp rfl<|sP (.pointer (some ⟨g3,1,none⟩))<|sS (.slice (some ⟨g2,o2,none⟩) 1 c2) (qc 0 1 rfl rfl Tryz.underlying59)<|sP (.int .i64 1)<|sP (.bool true)<|sP (.bool true) ?_
 refine sp rfl<|sP (.pointer (some ⟨g3,1,none⟩))<|sS (.slice (some ⟨g2,o2,none⟩) 1 c2) (qc 0 1 rfl rfl Tryz.underlying59)<|sS (.pointer (some ⟨g2,o2+0*33,none⟩)) (Quiet.pure (exec_atO 59 _ _ _ (some ⟨g2,o2,none⟩) g2 o2 1 c2 0 33 .i64 rfl rfl rfl rfl Tryz.underlying59 kF (by decide)))<|sP (.pointer (some ⟨g2,o2+0*33,none⟩))<|sS (.int .u64 2) (cellC (w0:=Base.of w) (R:=M2) (g:=g2) (f:=o2+0*33) (v:=.int .u64 2) (.inr d3.one) i2 rfl Tryz.underlying22)<|sP (.bool true)<|sP (.bool true) ?_
 refine sp rfl<|sp rfl<|sP (.bool true)<|sP (.bool true)<|sp rfl ?_
 refine sG<|Sy.ret ?_
 exact rV (.bool true) rfl
end Wr
end
section
namespace Wr
open Go.RowKit Sy
set_option maxRecDepth 100000
set_option maxHeartbeats 4000000
theorem eql_dgs_same (w:World) (F:Slots) (o:Oper) (x y:Operand) (a:List UInt8) (ha:a.length=32) {yt:TypeId} (ho:o.op=.binOp .eql 28 x y yt) (hx:evF F x=.agg (a.map bv).toArray) (hy:evF F y=.agg (a.map bv).toArray):(execOp (evF F) o).run Tryz.prog w=.ok (.value (.bool true)) w:=by
 have q:=eql_dgs w F o x y a a ha ha ho hx hy
 rwa [decide_eq_true rfl] at q
theorem sum_set {α:Type} (f:α→Nat):∀ (l:List α) (k:Nat) (x y:α),l[k]? = some x→((l.set k y).map f).sum+f x=(l.map f).sum+f y
 | [],_,_,_,h=>by cases h
 | a::l,0,x,y,h=>by
  cases h
  show (f y+(l.map f).sum)+f a=(f a+(l.map f).sum)+f y
  omega
 | a::l,k+1,x,y,h=>by
  have q:=sum_set f l k x y h
  show (f a+((l.set k y).map f).sum)+f x=(f a+(l.map f).sum)+f y
  omega
theorem law_wirewitness (w:World) (cs:List Value) (x:MTr) (hx:repTR (rdW w) cs x) (hwt:wtTR x≤500000000) (at_:Int) (h63:at_<9223372036854775808) (vb:Value) (b:Byt) (hvb:BytR (rdW w) vb b) (hbl:b.length≤100000000) (ht:TbS w):Calls Tryz.prog 5 #[.agg cs.toArray,.int .i64 at_,vb] w (Gets w (.bool true)):=by
 have hx0:=hx
 obtain ⟨af,is,os⟩:=x
 obtain ⟨vi,vo,rfl,h1,hI,hO⟩:=hx
 dsimp only at h1 hI hO
 obtain ⟨A,n,cp,rfl,hn1,hn2,hn3,hn4⟩:=id hI
 obtain ⟨A2,n2,cp2,rfl,ho1,ho2,ho3,ho4⟩:=id hO
 obtain ⟨Ab,nb_,cb,rfl,b2_,b3_,b4_,b5_⟩:=id hvb
 have hin:is.length≤100000000000:=by
  have q:=sum_ge1 (wt:=wtIN) (λx=>by unfold wtIN; omega) is
  unfold wtTR at hwt
  dsimp only at hwt
  omega
 have hx0:repTR (rdW w) [.int .u64 (af:Int),.slice A n cp,.slice A2 n2 cp2] ⟨af,is,os⟩:=hx0
 show Calls Tryz.prog 5 #[.agg #[.int .u64 (af:Int),.slice A n cp,.slice A2 n2 cp2],.int .i64 at_,.slice Ab nb_ cb] w _
 refine Sy.enter (args:=[.agg #[.int .u64 (af:Int),.slice A n cp,.slice A2 n2 cp2],.int .i64 at_,.slice Ab nb_ cb]) Tryz.func5 rfl kL ?_
 refine sC ?_
 refine sM 26 #[.int .u64 (af:Int),.slice A n cp,.slice A2 n2 cp2] (λg3=>?_)
 refine sP (.bool false) ?_
 refine sA ?_
 obtain ⟨d,hd⟩:∃ d,d=idTR ⟨af,is,os⟩:=⟨_,rfl⟩
 have hdl0:d.length=32:=by rw [hd]; exact tagged_len _ _
 have hdl:(d.map bv).length=32:=by rw [List.length_map,hdl0]
 have old:∀ {L:Blocks} (w':World),St (Base.of w) w' L→Le (rdW w) (rdW w'):=λw' hw g o u h=>rdC_world (w0:=Base.of w) (R:=[]) hw (λ_ h=>by cases h) g o u (.inl h)
 refine sS (.agg #[.int .u64 (af:Int),.slice A n cp,.slice A2 n2 cp2]) (qk 0 0 3 rfl rfl Tryz.underlying26)<|sS (.agg (d.map bv).toArray) (qg (λw' hw=>by rw [hd]; exact txId_any w' [.int .u64 (af:Int),.slice A n cp,.slice A2 n2 cp2] ⟨af,is,os⟩ (monoTR (old w' hw) hx0) (by omega) (tbS_st ht hw))) ?_
 refine sM 28 ((List.replicate 32 (0:UInt8)).map bv).toArray (λg7=>?_)
 refine sw 1 rfl (d.map bv).toArray (Writes.row 28 (d.map bv) 32 _ _ rfl kR kR kR hdl (by simp) (λu hu=>by obtain ⟨b,_,rfl⟩:=List.mem_map.1 hu; rfl)) ?_
 refine sA ?_
 refine sS (.agg #[.int .u64 (af:Int),.slice A n cp,.slice A2 n2 cp2]) (qk 0 0 3 rfl rfl Tryz.underlying26) ?_
 refine Sy.callN kR 25 #[.agg #[.int .u64 (af:Int),.slice A n cp,.slice A2 n2 cp2]] kF (BytE (okTR ⟨af,is,os⟩) (encTR ⟨af,is,os⟩)) (λw' hw=>txR_w w' ⟨af,is,os⟩ [.int .u64 (af:Int),.slice A n cp,.slice A2 n2 cp2] (monoTR (old w' hw) hx0) (by omega)) (λu M1 hM=>?_)
 obtain ⟨u1,rfl,k1⟩:=hM.uni
 obtain ⟨e1,he1⟩:∃ e:Int,e=erE (okTR ⟨af,is,os⟩):=⟨_,rfl⟩
 rw [← he1]
 refine sp rfl<|sp rfl<|sp rfl<|sp rfl<|sp rfl ?_
 refine sA ?_
 refine sS (.agg #[.int .u64 (af:Int),.slice A n cp,.slice A2 n2 cp2]) (qk 0 0 3 rfl rfl Tryz.underlying26) ?_
 refine sM 26 #[.int .u64 0,.slice none 0 0,.slice none 0 0] (λg10=>?_)
 refine Sy.permS (M:=[(g3,26,#[.int .u64 (af:Int),.slice A n cp,.slice A2 n2 cp2]),(g7,28,(d.map bv).toArray),(g10,26,#[.int .u64 0,.slice none 0 0,.slice none 0 0])]++M1) (List.Perm.trans (List.Perm.of_eq (kR:_=(g3,26,#[.int .u64 (af:Int),.slice A n cp,.slice A2 n2 cp2])::(g7,28,(d.map bv).toArray)::(M1++[(g10,26,#[.int .u64 0,.slice none 0 0,.slice none 0 0])]))) (((List.perm_append_comm (l₁:=M1) (l₂:=[(g10,26,#[.int .u64 0,.slice none 0 0,.slice none 0 0])])).cons _).cons _)) ?_
 refine sw 2 rfl #[.int .u64 (af:Int),.slice A n cp,.slice A2 n2 cp2] (wA rfl) ?_
 refine sA ?_
 refine sP (.pointer (some ⟨g3,1,none⟩))<|sS (.slice A n cp) (qc 0 1 rfl rfl Tryz.underlying23) ?_
 obtain ⟨xs,x1,x2,x3⟩:=rows_of hI
 refine Sy.permS (M:=[(g3,26,#[.int .u64 (af:Int),.slice A n cp,.slice A2 n2 cp2]),(g7,28,(d.map bv).toArray),(g10,26,#[.int .u64 (af:Int),.slice A n cp,.slice A2 n2 cp2])]++(nilS.bl++M1)) (List.Perm.refl _) ?_
 have hf:∀ L',From (Base.of w) L' A xs.flatten:=λL'=>by
  rcases x3 with rfl | ⟨g,o,e,hx⟩
  ·exact λ_ _=>.inl rfl
  ·subst e
   exact From.of (R:=[]) (λi u hu=>rdW_base _ _ _ (hx i u hu)) (λ_ h=>by cases h)
 refine Sy.appendM kR 23 83 _ _ 122 376 Tryz.underlying23 info_ins rfl rfl rfl rfl (by decide) _ _ rfl (Slc.Is.nil _ _) rfl (λy hy=>by obtain ⟨j,hj⟩:=List.getElem?_of_mem hy; exact (x2 j y hj).1) (λy hy=>by obtain ⟨j,hj⟩:=List.getElem?_of_mem hy; exact (x2 j y hj).2.1) A n cp (by omega) hn2 rfl (λr=>hf _) (by simp only [List.length_nil]; omega) (by simp only [List.length_nil,maxLen]; omega) (λy hyI=>?_)
 have hy:RowsX (rdW w) 83 122 repIN y is:=RowsX.of hyI (by rw [List.nil_append,x1]) (λj cs hj=>x2 j cs (by simpa using hj))
 obtain ⟨Ay,cpy,hyv,hc1,hc2⟩:=hy.val
 rw [hn1] at hyv hc1
 rw [hyv]
 refine sP (.pointer (some ⟨g10,1,none⟩))<|sw 2 rfl #[.int .u64 (af:Int),.slice Ay n cpy,.slice A2 n2 cp2] (Writes.one 1 23 (.slice Ay n cpy) _ _ rfl kR kR kR rfl rfl kL rfl) ?_
 refine sG<|Sy.seq ?_
 have hmx:n<9223372036854775808:=by simp only [maxLen] at hc2; omega
 refine joinX (T:=Slc×Blocks×List MIn) (λ_=>[(3,ptr g3),(7,ptr g7),(8,u1),(9,.int .i64 e1),(10,ptr g10)]) (λt=>[(g3,26,#[.int .u64 (af:Int),.slice A n cp,.slice A2 n2 cp2]),(g7,28,(d.map bv).toArray),(g10,26,#[.int .u64 (af:Int),.slice Ay n cpy,.slice A2 n2 cp2])]++(t.1.bl++(M1++t.2.1))) (λt=>RowsX (rdC (Base.of w) t.2.1) 83 122 repIN t.1 t.2.2∧t.1.v=.slice Ay n cpy∧t.2.2.map bareI=is.map bareI∧(t.2.2.map wtIN).sum≤(is.map wtIN).sum+(10+b.length)) (λt hT=>?_) (λK=>?_)
 case refine_2 =>
  have hz0:RowsX (rdC (Base.of w) []) 83 122 repIN y is:=by
   obtain ⟨xs,h1,h2,h3⟩:=hy
   refine ⟨xs,h1,h2,λj x hx=>?_⟩
   obtain ⟨cs,c1,c2⟩:=h3 j x hx
   exact ⟨cs,c1,monoIN rdW_base c2⟩
  refine sC ?_
  obtain ⟨b1,hb1⟩:∃ t_:Bool,t_=decide (at_ ≥ 0):=⟨_,rfl⟩
  refine sp rfl<|sS (.bool b1) (Quiet.pure (exec_int .geq _ _ _ .i64 _ _ _ rfl rfl rfl (int_geq _ _ _ _ _ hb1.symm)))<|sp rfl ?_
  cases b1
  ·refine sN<|sN<|sN<|sN<|sN<|sP (.bool false) ?_
   refine sG<|sU<|Sy.skip ?_
   exact leafX K (y,[],is) ⟨hz0,hyv,rfl,Nat.le_add_right _ _⟩ (all_cons kR (all_cons kR (all_cons kR (all_cons kR (all_cons kR all_nil))))) (λ_ h=>by simpa using h)
  have hl1:0≤at_:=of_decide_eq_true hb1.symm
  obtain ⟨k,rfl⟩:∃ k:Nat,at_=(k:Int):=⟨at_.toNat,by omega⟩
  obtain ⟨b2,hb2⟩:∃ t_:Bool,t_=decide (k<n):=⟨_,rfl⟩
  refine sp rfl<|sP (.pointer (some ⟨g10,1,none⟩))<|sS (.slice Ay n cpy) (qc 2 1 rfl rfl Tryz.underlying23)<|sP (.int .i64 (n:Int))<|sS (.bool b2) (Quiet.pure (exec_int .lss _ _ _ .i64 _ _ _ rfl rfl rfl (int_lss _ _ _ _ _ (by rw [hb2]; exact decide_eq_decide.2 (by omega)))))<|sP (.bool b2) ?_
  refine sG ?_
  cases b2
  ·refine sU<|Sy.skip ?_
   exact leafX K (y,[],is) ⟨hz0,hyv,rfl,Nat.le_add_right _ _⟩ (all_cons kR (all_cons kR (all_cons kR (all_cons kR (all_cons kR all_nil))))) (λ_ h=>by simpa using h)
  have l2:k<n:=of_decide_eq_true hb2.symm
  obtain ⟨x,hx⟩:∃ x,is[k]? = some x:=⟨_,List.getElem?_eq_getElem (by omega)⟩
  obtain ⟨g,cap,cells,rfl⟩:=hy.open (by intro e; rw [e] at hn1; simp at hn1; omega)
  rw [hn1] at hz0 hyv
  injection hyv with q1 q2 q3
  subst q1 q3
  rw [hn1]
  refine sT<|Sy.region ?_
  refine sP (.pointer (some ⟨g10,1,none⟩))<|sS (.slice (some ⟨g,0,none⟩) n cap) (qc 2 1 rfl rfl Tryz.underlying23)<|sp rfl<|sp rfl ?_
  refine Sy.make kR 29 #[.slice Ab nb_ cb] (λg=>.slice (some ⟨g,0,none⟩) 1 1) kF (λgw=>?_)
  have hz1:RowsX (rdC (Base.of w) [(gw,29,#[.slice Ab nb_ cb])]) 83 122 repIN ⟨.slice (some ⟨g,0,none⟩) n cap,[(g,83,cells)]⟩ is:=by
   obtain ⟨xs,h1,h2,h3⟩:=hz0
   refine ⟨xs,h1,h2,λj x hx=>?_⟩
   obtain ⟨cs,c1,c2⟩:=h3 j x hx
   exact ⟨cs,c1,monoIN (rdC_le λ_ h=>by cases h) c2⟩
  have hw1:LstR (rdC (Base.of w) [(gw,29,#[.slice Ab nb_ cb])]) 1 repY (.slice (some ⟨gw,0,none⟩) 1 1) [b]:=⟨_,1,1,rfl,rfl,Nat.le_refl _,by decide,λ_=>⟨gw,0,rfl,λj z hz=>by
   match j,hz with
   | 0,hz=>cases hz; exact ⟨[.slice Ab nb_ cb],rfl,λu hu=>by rw [List.mem_singleton.1 hu]; rfl,⟨_,rfl,hvb.le rdW_base⟩,λi u hu=>by
     match i,hu with
     | 0,hu=>cases hu; exact .inr ⟨_,_,List.mem_singleton.2 rfl,rfl⟩⟩⟩⟩
  obtain ⟨hz2,hlt⟩:=hz1.set k 121 (.slice (some ⟨gw,0,none⟩) 1 1) x { x with wit:=[b] } hx (by decide) rfl (λcs h=>wit_rep h _ [b] hw1)
  have hkn:=(List.getElem?_eq_some_iff.1 hx).1
  have hkx:=(List.getElem?_eq_some_iff.1 hx).2
  refine sS (.pointer (some ⟨g,0+k*122,none⟩)) (Quiet.pure (exec_at 23 83 _ _ g 0 n cap k 122 .i64 rfl rfl rfl Tryz.underlying23 kF l2))<|sP (.pointer (some ⟨g,0+k*122+121,none⟩))<|sw 3 rfl (cells.setIfInBounds (k*122+121) (.slice (some ⟨gw,0,none⟩) 1 1)) (Writes.one (0+k*122+121) 66 (.slice (some ⟨gw,0,none⟩) 1 1) _ _ rfl kR kR kR rfl rfl (by omega) (by rw [show 0+k*122+121=k*122+121 by omega])) ?_
  refine Sy.nil ?_
  refine leafX K (⟨.slice (some ⟨g,0,none⟩) n cap,[(g,83,cells.setIfInBounds (k*122+121) (.slice (some ⟨gw,0,none⟩) 1 1))]⟩,[(gw,29,#[.slice Ab nb_ cb])],is.set k { x with wit:=[b] }) ⟨hz2,rfl,?_,?_⟩ (all_cons kR (all_cons kR (all_cons kR (all_cons kR (all_cons kR all_nil))))) (λ_ h=>by simpa using h)
  ·rw [List.map_set]
   apply List.ext_getElem?
   intro j
   rw [List.getElem?_set]
   split
   ·rename_i e
    subst e
    rw [if_pos (by rw [List.length_map]; exact hkn),List.getElem?_map,hx]; rfl
   ·rfl
  ·show ((is.set k { x with wit:=[b] }).map wtIN).sum≤_
   have q:=sum_set wtIN is k x { x with wit:=[b] } hx
   have q2:wtIN { x with wit:=[b] }≤wtIN x+(9+b.length):=by
    unfold wtIN
    dsimp only
    show _+(_+(_+(_+(9+((9+b.length)+0)))))≤_
    omega
   omega
 obtain ⟨z,N,is'⟩:=t
 obtain ⟨hz,hzv,hbare,hsum⟩:=hT
 dsimp only at hz hzv hbare hsum ⊢
 refine Sy.then_<|sC ?_
 refine sS (.agg #[.int .u64 (af:Int),.slice A n cp,.slice A2 n2 cp2]) (qk 0 0 3 rfl rfl Tryz.underlying26) ?_
 refine Sy.callN kR 25 #[.agg #[.int .u64 (af:Int),.slice A n cp,.slice A2 n2 cp2]] kF (BytE (okTR ⟨af,is,os⟩) (encTR ⟨af,is,os⟩)) (λw' hw=>txR_w w' ⟨af,is,os⟩ [.int .u64 (af:Int),.slice A n cp,.slice A2 n2 cp2] (monoTR (old w' hw) hx0) (by omega)) (λu M2 hM=>?_)
 obtain ⟨u2,rfl,k2⟩:=hM.uni
 rw [← he1]
 refine sp rfl<|sp rfl<|sp rfl<|sp rfl<|sp rfl ?_
 refine sG<|Sy.seq ?_
 refine Sy.regionD (λ_=>false) kR ?_
 have hid:d=idTR ⟨af,is',os⟩:=by
  rw [hd]
  unfold idTR bareT
  dsimp only
  rw [hbare]
 have hwt2:wtTR ⟨af,is',os⟩≤1000000000:=by
  unfold wtTR at hwt ⊢
  dsimp only at hwt ⊢
  omega
 refine sD 0 rfl (.bool true) (qg (λw' _=>alive12 w'))<|sa 1 rfl rfl<|sD 2 rfl (.agg #[.int .u64 (af:Int),.slice Ay n cpy,.slice A2 n2 cp2]) (qk 2 0 3 rfl rfl Tryz.underlying26)<|sD 3 rfl (.agg (d.map bv).toArray) (qg (λw' hw=>by
  rw [hid]
  exact txId_any w' [.int .u64 (af:Int),.slice Ay n cpy,.slice A2 n2 cp2] ⟨af,is',os⟩ ⟨_,_,rfl,h1,by
   rw [← hzv]
   exact RowsX.lst (rep:=repIN) (C:=rdC (Base.of w) N) (D:=rdW w') monoIN (λg o u h=>rdC_world (R:=N) hw (λb hb=>by simp [hb]) g o u h) (λg o u h=>rdC_world (R:=z.bl) hw (λb hb=>by simp [hb]) g o u (.inr h)) hz,LstR.le (rep:=repOU) monoOU (old w' hw) hO⟩ hwt2 (tbS_st ht hw)))<|sD 4 rfl (.agg (d.map bv).toArray) (Quiet.mid 1 g7 0 32 28 28 (d.map bv) (d.map bv) _ _ rfl kR rfl Tryz.underlying28 rfl kR (by rw [List.drop_zero,List.take_of_length_le (by omega)]) (by omega))<|sD 5 rfl (.bool true) (Quiet.pure (λw'=>eql_dgs_same w' _ _ _ _ d hdl0 rfl rfl rfl))<|sb 6 rfl (.bool true)<|sa 7 rfl rfl<|sa 8 rfl rfl<|sa 9 rfl rfl<|sD 10 rfl (.bool true) (Quiet.pure (exec_int .eql _ _ _ .i64 _ _ _ rfl rfl rfl (int_eql _ _ _ _ _ (decide_eq_true rfl))))<|sb 11 rfl (.bool true)<|sa 12 rfl rfl<|sa 13 rfl rfl<|sa 14 rfl rfl<|sD 15 rfl (.bool true) (qg (λw' hw=>by
   have q:=same_any w' u1 u2 _ _ (k1.le (λg o u h=>rdC_world (R:=M1) hw (λb hb=>by simp [hb]) g o u (.inr h))) (k2.le (λg o u h=>rdC_world (R:=M2) hw (λb hb=>by simp [hb]) g o u (.inr h)))
   rw [decide_eq_true rfl] at q
   exact q))<|sb 16 rfl (.bool true)<|sa 17 rfl rfl ?_
 refine sE ?_
 refine Sy.then_<|Sy.ret ?_
 exact rV (.bool true) rfl
end Wr
end
end Go.Proofs.YtgggdbjakcpanaaGreatDoor
