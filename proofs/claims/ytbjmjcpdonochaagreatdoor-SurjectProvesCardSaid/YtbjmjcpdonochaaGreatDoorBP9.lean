/-
  Texts of ours, put together: RingAM, StrZ, RingOnlyL, SurB, SurC, SurD, PLift10, SurE, RefNumT, RingAL, SurF, SurH, SurI.
-/
import Derived.Test.YtbjmjcpdonochaaGreatDoorBP8
set_option linter.unusedVariables false
set_option linter.unusedSimpArgs false
set_option maxRecDepth 100000
set_option maxHeartbeats 4000000
namespace Go.Proofs.YtbjmjcpdonochaaGreatDoor
section
namespace Cu
open Go.RowKit Sy
theorem E7 (f:Nat→Nat):∀ (T:Nat) {q:Nat},q<T→((Ck f T).drop (32*q)).take 32=AW (f q%Sc.pM)
 | 0,q,h=>absurd h (Nat.not_lt_zero _)
 | T+1,q,h=>by
  show ((Ck f T++AW (f T%Sc.pM)).drop (32*q)).take 32=_
  have hl:=C5 f T
  rcases Nat.lt_succ_iff_lt_or_eq.1 h with hq | hq
  ·rw [List.drop_append_of_le_length om,List.take_append_of_le_length (by rw [List.length_drop]; omega)]
   exact E7 f T hq
  ·rw [hq,List.drop_left' hl,List.take_of_length_le (by rw [AF]; exact Nat.le_refl _)]
theorem OP (sn:Nat→Nat) {N i j:Nat} (hi:i<N) (hj:j<sn i):BA sn i+j<BA sn N:=by
 have h1:BA sn (i+1)≤BA sn N:=Cv sn hi
 have h2:BA sn (i+1)=BA sn i+sn i:=rfl
 omega
theorem Pp (s:Nat→Nat→Nat) (sn:Nat→Nat):∀ (N:Nat) {i j:Nat},i<N→j<sn i→atL (EP s sn N) (BA sn i+j)=s i j
 | 0,i,j,hi,_=>absurd hi (Nat.not_lt_zero _)
 | k+1,i,j,hi,hj=>by
  show atL (EP s sn k++(List.range (sn k)).map (s k)) _=_
  have hl:=Dz s sn k
  rcases Nat.lt_succ_iff_lt_or_eq.1 hi with h | h
  ·rw [K3 (by rw [hl]; exact OP sn h hj)]
   exact Pp s sn k h hj
  ·subst h
   rw [← hl,Iy,Iz hj]
theorem D9 (s:Nat→Nat→Nat) (sn:Nat→Nat) (N:Nat):(CD s sn N).length=32*BA sn N:=by rw [← FN,C5]
theorem PU {d:List UInt8} {s:Nat→Nat→Nat} {sn:Nat→Nat} {N i j:Nat} (hd:d.length=32) (hi:i<N) (hj:j<sn i):nmD (d++CD s sn N) sn i j=s i j%Sc.pM:=by
 have hq:=OP sn hi hj
 unfold nmD nmB b32
 rw [show 32*(1+BA sn i+j)=32+32*(BA sn i+j) by omega, ← List.drop_drop,List.drop_left' hd, ← FN,E7 _ _ hq,Pp s sn N hi hj,Js _ (Sc.mod_lt _)]
theorem RO {d:List UInt8} {s:Nat→Nat→Nat} {sn:Nat→Nat} {N:Nat} (hd:d.length=32) (h1:1≤N) (h2:N≤32) (h3:∀ i,i<N→1≤sn i∧sn i≤64):Kh (d++CD s sn N) (λi=>((sn i:Nat):Int)) N=true:=by
 have hE:(λi=>(((sn i:Nat):Int)).toNat)=sn:=funext λi=>Int.toNat_natCast _
 unfold Kh
 rw [hE,(JA N _).2 ⟨h1,h2,λi hi=>by have:=h3 i hi; omega⟩,decide_eq_true (by rw [List.length_append,hd,D9,Dc]; omega),Iw λi hi=>List.all_eq_true.2 λj hj=>decide_eq_true (by rw [PU hd hi (List.mem_range.1 hj)]; exact Nat.mod_lt _ dZ)]
 rfl
theorem N_ {m:List UInt8} {D:Nat→Int} {N:Nat} (h:Kh m D N=true):1≤N∧N≤32∧32≤m.length∧∀ i,i<N→1≤(D i).toNat∧(D i).toNat≤64:=by
 unfold Kh at h
 rw [Bool.and_eq_true,Bool.and_eq_true] at h
 have hl:m.length=A4 _ N:=of_decide_eq_true h.2.1
 rw [Dc] at hl
 have hz:=(JA N D).1 h.1
 exact ⟨hz.1,hz.2.1,by omega,λi hi=>by have:=hz.2.2 i hi; omega⟩
end Cu
end
section
namespace Cu
open Go.RowKit Sy
theorem Jn {P:Program} {w0:Base} {F:AN} {L:AB} {o:Oper} {v:Value} (h:∀ w,St w0 w L→(execOp (evF F) o).run P w=.ok (.value v) w):Quiet P w0 F L o v:=λw hw=>by
 unfold Gives; rw [h w hw]; exact ⟨rfl,Gr.refl _⟩
theorem QK {w:World} {A:Option Addr} {m:List UInt8} {c:Nat} (h:Sh.Src w A m):(convert 24 9 (.slice A m.length c)).run Tryz.prog w=.ok (.string ⟨m.toArray⟩) w:=by
 rcases m with _ | ⟨x,m⟩
 ·cases A with
  | none =>
   rw [show ([]:List UInt8).length=0 from rfl,run_convert_bytes_string w 24 9 5 none 0 c Ci uy5 uy9]
   rfl
  | some a=>exact run_convert_bytes_back w 24 9 5 a c [] Ci uy5 uy9 (λj hj=>absurd hj (Nat.not_lt_zero _))
 ·obtain ⟨b,o,rfl,_,hc⟩:=h (by simp)
  refine run_convert_bytes_back w 24 9 5 _ c _ Ci uy5 uy9 (λj hj=>?_)
  rw [B_]
  exact hc j _ (List.getElem?_eq_getElem hj)
theorem TQ {w0:Base} {F:AN} {L:AB} {o:Oper} (A:Option Addr) (m:List UInt8) (k c:Nat) (x:Operand) (ho:o.op=.convert 24 9 x) (hx:evF F x=.slice A k c) (hm:m.length=k) (hs:∀ w,St w0 w L→Sh.Src w A m):Quiet Tryz.prog w0 F L o (.string ⟨m.toArray⟩):=Jn λw hw=>by
 have h:=QK (c:=c) (hs w hw)
 rw [hm] at h
 unfold execOp
 simp only [ho,hx,Sem.run_bind,h,Result.andThen_ok,Sem.run_pure]
theorem PR (w:World) (F:AN) (o:Oper) (x y:Operand) (a b:List UInt8) {yt:TypeId} (ho:o.op=.binOp .eql 9 x y yt) (hx:evF F x=.string ⟨a.toArray⟩) (hy:evF F y=.string ⟨b.toArray⟩):(execOp (evF F) o).run Tryz.prog w=.ok (.value (.bool (decide (a=b)))) w:=by
 have h1:(eqGuard .eql 9 x y (.string ⟨a.toArray⟩) (.string ⟨b.toArray⟩)).run Tryz.prog w=.ok () w:=by go_simp
 have h2:(binOp .eql 9 (.string ⟨a.toArray⟩) (.string ⟨b.toArray⟩)).run Tryz.prog w=.ok (.bool (decide (a=b))) w:=by
  by_cases e:a=b <;> simp [go_sem,ByteArray.toList_eq,e]
 unfold execOp
 simp only [ho,hx,hy,Sem.run_bind,h1,h2,Result.andThen_ok,Sem.run_pure]
end Cu
end
section
namespace Cu
open Go.RowKit Sy
def RwU (w0:Base) (W:Option Addr) (N:Nat) (nk:Nat→Nat) (s:Nat→Nat→Nat) (sa:Nat→Option Addr) (sc:Nat→Nat) (M:AB):Prop:=(∀ i,i<N→nk i≤sc i)∧∀ (w:World) (L:AB),St w0 w L→(∀ b∈M,b∈L)→Lst w 1 W N (λi=>[.slice (sa i) (nk i) (sc i)])∧∀ i,i<N→Lst w 4 (sa i) (nk i) (λk=>fws (s i k))
theorem RwU.zero (w0:Base) (nk:Nat→Nat) (s:Nat→Nat→Nat) (sa:Nat→Option Addr) (sc:Nat→Nat):RwU w0 none 0 nk s sa sc []:=⟨λi hi=>absurd hi (Nat.not_lt_zero _),λ_ _ _ _=>⟨⟨0,0,λh=>absurd h (Nat.lt_irrefl _)⟩,λi hi=>absurd hi (Nat.not_lt_zero _)⟩⟩
theorem RwU.rows {w0:Base} {NR g:Nat} {nk:Nat→Nat} {s:Nat→Nat→Nat} {r:Nat→Slc} {sp:List Value} {M:AB} (hr:RowsAre r 42 4 (λi j=>fws (s i j)) (Bx nk NR 0)) (hM:M=(g,51,(AH (λj=>[(r j).v]) NR++sp).toArray)::Ai r NR):∃ sa sc,RwU w0 (pA g) NR nk s sa sc M:=by
 have hv:∀ i,i<NR→(r i).v=.slice (slA (r i).v) (nk i) (slC (r i).v)∧nk i≤slC (r i).v:=λi hi=>by
  obtain ⟨A,k,h1,h2,_⟩:=hr.lst (CH hi) hi
  rw [h1]
  exact ⟨rfl,h2⟩
 refine ⟨λi=>slA (r i).v,λi=>slC (r i).v,λi hi=>(hv i hi).2,λw L hw hb=>⟨?_,λi hi=>?_⟩⟩
 ·exact E0 (BN (f:=λj=>[(r j).v]) (λ_=>rfl) hw (hb _ (by rw [hM]; exact List.mem_cons_self ..))) (λi hi=>by rw [← (hv i hi).1])
 ·obtain ⟨A,k,h1,_,_,h2⟩:=hr.lst (CH hi) hi
  have h3:=h2 hw (λb h=>hb b (by rw [hM]; exact List.mem_cons_of_mem _ h))
  show Lst w 4 (slA (r i).v) _ _
  rw [h1]
  exact h3
def Cr (w0:Base) (d:List UInt8) (N:Nat) (nk:Nat→Nat) (s:Nat→Nat→Nat) (u:Value) (v:Value) (M:AB):Prop:=∃ (W:Option Addr) (c:Nat) (sa:Nat→Option Addr) (sc:Nat→Nat),v=.tuple #[AM d W N c,u]∧RwU w0 W N nk s sa sc M
theorem DecR.uniC {w0:Base} {b:Bool} {d:List UInt8} {s:Nat→Nat→Nat} {nk:Nat→Nat} {NR:Nat} {v:Value} {M:AB} (h:DecR b d s nk NR v M):Cr w0 (uD true b d) (uN true b NR) nk s (.bool b) v M:=by
 rcases h with ⟨rfl,rfl,rfl⟩ | ⟨rfl,u,rfl,g,cap,sp,r,rfl,_,rfl,hr⟩
 ·exact ⟨none,0,λ_=>none,λ_=>0,rfl,RwU.zero ..⟩
 ·obtain ⟨sa,sc,h⟩:=RwU.rows (w0:=w0) hr U
  exact ⟨_,cap,sa,sc,rfl,h⟩
theorem SgnR.uniC {w0:Base} {br bf:Bool} {d:List UInt8} {s:Nat→Nat→Nat} {nk:Nat→Nat} {NR:Nat} {v:Value} {M:AB} (h:SgnR br bf d (λi j=>fws (s i j)) nk NR v M):Cr w0 (uD br bf d) (uN br bf NR) nk s (.int .i64 (uE br bf)) v M:=by
 rcases h with ⟨rfl,rfl,rfl⟩ | ⟨rfl,rfl,rfl,rfl⟩ | ⟨rfl,rfl,u,rfl,g,r,rfl,rfl,hr⟩
 ·exact ⟨none,0,λ_=>none,λ_=>0,rfl,RwU.zero ..⟩
 ·exact ⟨none,0,λ_=>none,λ_=>0,rfl,RwU.zero ..⟩
 ·obtain ⟨sa,sc,h⟩:=RwU.rows (w0:=w0) (sp:=[]) hr (by rw [List.append_nil])
  exact ⟨_,NR,sa,sc,rfl,h⟩
theorem T9 (m:List UInt8) (k:Nat):nmB m k<K4:=by
 unfold nmB
 refine Nat.lt_of_lt_of_le (FI _ _ U) (Nat.le_trans (Nat.pow_le_pow_right dZ (show (b32 m k).length≤32 by unfold b32; rw [List.length_take]; omega)) (show 256 ^ 32≤K4 by decide +kernel))
end Cu
end
section
namespace Cu
open Go.RowKit Sy
theorem Bc {P:Program} {w0:Base} {n:Nat} {Q:Exit→Act→World→Prop} {F:AN} {L:AB} {ops:Array Oper} {ex:Nat→Bool} {fuel:Nat} {listed:Array Bool} {T:Type} {FF:T→AN} {LL:T→AB} {H:T→Prop} {li:Array Bool} (h:∀ x,H x→wpD P w0 n ops Q ex (FF x) (LL x) fuel li) (x:T) (hx:H x) (hl:listed=li) (hF:∀ p∈FF x,F.lookup p.1=some p.2) (p:L.Perm (LL x)):wpD P w0 n ops Q ex F L fuel listed:=λa w ha hw=>by
 subst hl
 exact h x hx a w (ha.all hF) (hw.perm p)
section
variable (ax ay:Nat) (ai:Bool) (X Y:Nat→Nat) (I:Nat→Bool)
def sjX (_ j:Nat):Nat:=pX (BT ax ay ai (X j) (Y j) (I j))
def sjY (_ j:Nat):Nat:=pY (BT ax ay ai (X j) (Y j) (I j))
def sjI (_ j:Nat):Bool:=pI (BT ax ay ai (X j) (Y j) (I j))
theorem Q5 (ax ay:Nat) (ai:Bool) (x y:Nat) (i:Bool):Ec.On (BT ax ay ai x y i):=Ec.On.add fld (C9 _ _ _) (Ec.On.neg (C9 _ _ _))
theorem G2 {n:Nat} (h:EJ n=true):CQ 1 (λ_=>n) (sjX ax ay ai X Y I) (sjY ax ay ai X Y I) (sjI ax ay ai X Y I)=true:=by
 have hn:=alw_iff.1 h
 refine MU dZ dZ (λk _=>⟨hn,λj _=>JK (Q5 ..)⟩)
end
abbrev yT (ax ay:Nat) (ai:Bool) (g:Nat):Nat×TypeId×Array Value:=(g,174,((Av (dec ax ay ai)).map bv).toArray)
abbrev yA (f:Nat→List Value) (n g:Nat):Nat×TypeId×Array Value:=(g,176,(AH (upto n f (pml 0 0 false)) 64).toArray)
abbrev yR (n ga g:Nat):Nat×TypeId×Array Value:=(g,45,#[.slice (pA ga) n n])
abbrev zX (z:Int) (kx g:Nat):Nat×TypeId×Array Value:=(g,44,(BV z kx).toArray)
abbrev zW (g:Nat):Nat×TypeId×Array Value:=(g,31,zS33.toArray)
abbrev zB (sd:List UInt8) (ax ay:Nat) (ai:Bool) (kx g0 g1 g2:Nat):AB:=[(g0,23,(sd.map bv).toArray),(g1,48,(pcs ax ay ai)),(g2,42,(fcs kx))]
def PrvR (al bf:Bool) (l:List UInt8) (v:Value) (M:AB):Prop:=(al=false∧v=.tuple #[.slice none 0 0,.int .i64 100]∧M=[])∨(al=true∧bf=false∧v=.tuple #[.slice none 0 0,.int .i64 101]∧M=[])∨(al=true∧bf=true∧∃ y:Slc,v=.tuple #[y.v,.int .i64 0]∧M=y.bl∧y.Is 5 1 (Aj l))
section
variable (sd:List UInt8) (ax ay:Nat) (ai:Bool) (X Y:Nat→Nat) (I:Nat→Bool) (n:Nat) (z:Int) (kx:Nat)
def sjM:List UInt8:=rgM (Av (dec ax ay ai)) 1 (λ_=>n) (sjX ax ay ai X Y I) (sjY ax ay ai X Y I) (sjI ax ay ai X Y I)
def sjD:List UInt8:=sgD (sjM ax ay ai X Y I n) sd (sjX ax ay ai X Y I) (sjY ax ay ai X Y I) (sjI ax ay ai X Y I) (λ_=>z.toNat) (λ_=>n) 1
def sjS:Nat→Nat→Nat:=sgS (sjM ax ay ai X Y I n) sd (sjX ax ay ai X Y I) (sjY ax ay ai X Y I) (sjI ax ay ai X Y I) (λ_=>z.toNat) (λ_=>kx) (sjD sd ax ay ai X Y I n z)
def sjF:Bool:=Dw (λ_=>z) (λ_=>kx) (λ_=>n) (sjX ax ay ai X Y I) (sjY ax ay ai X Y I) (sjI ax ay ai X Y I) 1 1
def sjL:List UInt8:=UInt8.ofNat n::(sjD sd ax ay ai X Y I n z++CD (sjS sd ax ay ai X Y I n z kx) (λ_=>n) 1)
end
theorem From.srcL {w0:Base} {L:AB} {A:Option Addr} {l:List UInt8} (hs:∀ w,St w0 w L→Sh.Src w A l):From w0 L A (Aj l).flatten:=λw hw=>by
 rw [Cg]
 by_cases h0:l=[]
 ·subst h0; exact .inl U
 ·obtain ⟨b,o,e,h2,h3⟩:=hs w hw h0
  refine .inr ⟨_,e,λj u hj=>?_⟩
  rw [B_]
  rw [List.getElem?_map] at hj
  cases hx:l[j]? with
  | none=>rw [hx] at hj; cases hj
  | some x =>
   rw [hx] at hj
   injection hj with hj
   rw [← hj]
   exact h3 j x hx
theorem M4 {w:World} {g n:Nat} {t:TypeId} {f f':Nat→List Value} (hf:∀ j,(f j).length=9) (hn:n≤64) (hb:Blk w g t (AH (upto n f (pml 0 0 false)) 64).toArray) (he:∀ j,f j=f' j):Lst w 9 (pA g) n f':=by
 refine ⟨g,0,λ_=>⟨rfl,hb.lt,λj hj i v hi=>?_⟩⟩
 have h1:=Eu (f:=upto n f (pml 0 0 false)) (Az hf U _) (n:=64) (k:=j) (o:=0+j*9) om om
 have h2:(((AH (upto n f (pml 0 0 false)) 64).drop (0+j*9)).take 9)=f' j:=by
  have:=h1
  rw [← he j, ← I6 (k:=n) (A:=f) (z:=pml 0 0 false) hj]
  exact this
 have hl:(f' j).length=9:=by rw [← he]; exact hf j
 rw [← h2] at hi
 have hi9:i<9:=by
  have:=(List.getElem?_eq_some_iff.1 hi).1
  rw [List.length_take] at this
  omega
 rw [List.getElem?_take_of_lt hi9,List.getElem?_drop] at hi
 exact (hb.cell _).trans (by rw [List.getElem?_toArray]; exact hi)
theorem GK (w:World) (sd:List UInt8) (hsd:sd.length=32) (A:Option Addr) (n c:Nat) (X Y:Nat→Nat) (I:Nat→Bool) (hX:∀ k,X k<K4) (hY:∀ k,Y k<K4) (hn:n≤9223372036854775807) (hlk:Lst w 9 A n (λk=>pml (X k) (Y k) (I k))) (ax ay:Nat) (ai:Bool) (hax:ax<K4) (hay:ay<K4) (z:Int) (kx:Nat) (hkx:kx<K4) (ht:Sh.TabAt w 1) :
  Calls Tryz.prog 31 #[.agg (sd.map bv).toArray,.slice A n c,pv ax ay ai,.int .i64 z,fv kx] w (GetsN w (PrvR (EJ n) (sjF ax ay ai X Y I n z kx) (sjL sd ax ay ai X Y I n z kx))):=by
 obtain ⟨b1,hb1⟩:=xE (EJ n)
 rw [← hb1]
 refine Sy.enter (args:=[.agg (sd.map bv).toArray,.slice A n c,pv ax ay ai,.int .i64 z,fv kx]) Tryz.func31 U kL<|sC<|sM 23 (sd.map bv).toArray (λg0=>?_)
 refine sM 48 (pcs ax ay ai) (λg1=>?_)
 refine sM 42 (fcs kx) (λg2=>?_)
 refine sP (.slice none 0 0)<|sP (.int .i64 0)<|sG<|Sy.seq<|sC<|sP (.slice A n c)<|sP (iZ n)<|sS (.bool b1) (qG 83 #[iZ n] (λw hw=>by rw [hb1]; exact GQ w n hn)) ?_
 cases b1
 ·refine sP (.bool true) ?_
  refine sG<|sT<|sC<|sP (.slice none 0 0)<|sP (.int .i64 100)<|sG<|Sy.ret<|Sy.then_ret ?_
  exact BD [] rfl (v:=.slice none 0 0) (u:=.int .i64 100) (.inl (show _=_ by kernel_rfl)) (.inl (show _=_ by kernel_rfl)) (λ_ hw=>hw.none) (.inl ⟨rfl,rfl,rfl⟩)
 ·have hn64:n≤64:=(alw_iff.1 hb1.symm).2
  have hn1:1≤n:=(alw_iff.1 hb1.symm).1
  have hn:n≤4611686018427387904:=Nat.le_trans hn64 dZ
  obtain ⟨bf,hbf⟩:=xE (sjF ax ay ai X Y I n z kx)
  rw [← hbf]
  obtain ⟨fK,hfK⟩:∃ f:Nat→List Value,f=(λj=>pml (pX (BT ax ay ai (X j) (Y j) (I j))) (pY (BT ax ay ai (X j) (Y j) (I j))) (pI (BT ax ay ai (X j) (Y j) (I j)))):=⟨_,rfl⟩
  have hf9:∀ j,(fK j).length=9:=λj=>by rw [hfK]; rfl
  obtain ⟨dS,hdS⟩:=xE (sjD sd ax ay ai X Y I n z)
  obtain ⟨zS,hzS⟩:=xE (sjS sd ax ay ai X Y I n z kx)
  have hdSl:dS.length=32:=by rw [hdS]; exact D6 _
  have hzS4:∀ i k,zS i k<K4:=λi k=>by rw [hzS]; exact Oc _ _
  obtain ⟨dU,hdU⟩:=xE (uD true bf dS)
  obtain ⟨NU,hNU⟩:=xE (uN true bf 1)
  obtain ⟨en,hen⟩:=xE (uE true bf)
  have hdUl:dU.length=32:=by rw [hdU]; exact OK hdSl
  have hc5:∀ {L:AB} w',St (Base.of w) w' L→Calls Tryz.prog 85 #[.slice A n c,pv ax ay ai] w' (GetsN w' (Fq fK n)):=λw' hw=>by rw [hfK]; exact GH w' A n c X Y I hX hY ax ay ai hax hay hn64 (hlk.below hw.below)
  have hsign:∀ w',(∀ {L},St (Base.of w) w' L→∀ gt ga gr gs,Blk w' gt 174 ((Av (dec ax ay ai)).map bv).toArray→Blk w' ga 176 (AH (upto n fK (pml 0 0 false)) 64).toArray→Blk w' gr 45 #[.slice (pA ga) n n]→Blk w' gs 44 (BV z kx).toArray →
    Calls Tryz.prog 10 #[.agg (sd.map bv).toArray,.slice (pA gt) 33 33,.slice (pA gr) 1 1,.slice (pA gs) 1 1] w' (GetsN w' (Cr (Base.of w) dU NU (λ_=>n) zS (.int .i64 en)))):=λw' {L} hw gt ga gr gs h1 h2 h3 h4=>by
   have q:=OG w' sd hsd (pA gt) (Av (dec ax ay ai)) 33 33 (Ao _) dZ dZ dZ (Sh.Src.of_blk h1) (pA gr) 1 1 (λ_=>some ⟨ga,0,none⟩) (λ_=>n) (λ_=>n) (sjX ax ay ai X Y I) (sjY ax ay ai X Y I) (sjI ax ay ai X Y I) (λ_ _=>EN _) (λ_ _=>EM _) dZ (λ_=>hn) (DZ h3 U) (λi _=>M4 hf9 hn64 h2 (λj=>by rw [hfK]; rfl)) dZ (pA gs) 1 1 (λ_=>z) (λ_=>kx) (λ_=>hkx) dZ (DZ h4 U) (ht.below hw.below ht.lt)
   rw [G2 ax ay ai X Y I hb1.symm] at q
   rw [hdU,hNU,hen,hzS,hdS,hbf]
   exact Calls.mono q (λe w' ⟨v,M,q1,q2,q3⟩=>⟨v,M,q1,SgnR.uniC q2,q3⟩)
  refine sP (.bool false)<|sG<|sU<|Sy.skip<|sR (λj=>j == 15) ?_
  refine sD 0 U (.agg (sd.map bv).toArray) (Quiet.load 0 g0 0 32 23 23 (sd.map bv).toArray _ _ U kR kR DA U kR _ (BF sd hsd) (Bh sd hsd))<|sD 1 U (pv ax ay ai) (qL 1 g1 0 9 48 48 (pcs ax ay ai) rfl Ac)<|sZ 3 U (.slice A n c)<|sD 4 U (pv ax ay ai) (qL 1 g1 0 9 48 48 (pcs ax ay ai) rfl Ac) <|
   sZ 6 U (.int .i64 z)<|sD 7 U (fv kx) (qL 2 g2 0 4 42 42 (fcs kx) rfl Ah)<|sZ 8 U (.agg (BV z kx).toArray) ?_
  refine Sy.joinG (T:=Nat×Nat×Nat×Nat×Nat×Option Addr×Nat×AB) (λx=>[(1,.slice A n c),(12,ptr x.2.2.2.2.1),(30,AM dU x.2.2.2.2.2.1 NU x.2.2.2.2.2.2.1),(31,.int .i64 en)]) (λx=>[(g0,23,(sd.map bv).toArray),(g1,48,(pcs ax ay ai)),(g2,42,(fcs kx)),(yT ax ay ai (x.1)),(yA fK n (x.2.1)),(yR n (x.2.1) (x.2.2.1)),(zX z kx (x.2.2.2.1)),(zW (x.2.2.2.2.1))]++x.2.2.2.2.2.2.2) (λx=>∃ sa sc,RwU (Base.of w) x.2.2.2.2.2.1 NU (λ_=>n) zS sa sc x.2.2.2.2.2.2.2) 2 #[true,true,true,true,true,true,true,true,true,true,true,true,true,true,true,false,false] (λx hx=>?_) (λfin=>?_)
  ·obtain ⟨gt,ga,gr,gs,g12,W1,c1,M1⟩:=x
   obtain ⟨sa1,sc1,hU1⟩:=hx
   dsimp only
   refine sX 15 U 7 g12 31 zS33.toArray (AO dU W1 NU c1).toArray (Writes.row 31 (AO dU W1 NU c1) 33 _ _ U kR kR kR (Ag hdUl) (by rw [List.size_toArray,Ag List.length_replicate]) Bo)<|Sy.setTD<|Sy.anyOf [16] kZ dZ (Sy.each1 ?_)
   refine Sy.oneQuiet U kR (.int .i64 en) (Quiet.pure kF)<|sI<|Sy.seq<|sC ?_
   obtain ⟨b4,hb4⟩:=xE (decide (en≠0))
   refine sP (.int .i64 en)<|sS (.bool b4) (Quiet.pure (AV .neq _ _ _ .i64 _ _ _ U U U (De _ _ _ _ _ hb4.symm)))<|sG ?_
   cases b4
   ·have he0:en=0:=Decidable.of_not_not (of_decide_eq_false hb4.symm)
    have hbb:bf=true:=by
     rw [hen] at he0
     cases bf <;> first | rfl | cases he0
    subst hbb
    obtain rfl:1=NU:=hNU.symm
    obtain rfl:dU=dS:=hdU
    obtain ⟨l0,hl0⟩:=xE (dU++CD zS (λ_=>n) 1)
    have hll:l0.length≤2080:=by
     have e:BA (λ_=>n) 1=n:=Nat.zero_add n
     rw [hl0,List.length_append,hdUl,D9,e]
     omega
    refine sU<|Sy.skip<|sB<|sP (.slice A n c)<|sP (iZ n)<|sS (bv (UInt8.ofNat n)) (Quiet.pure (λw=>CF w _ _ _ n om U U))<|Sy.make kR 5 #[bv (UInt8.ofNat n)] (λg=>.slice (pA g) 1 1) kF (λg7=>?_)
    refine Sy.movT<|sS (AM dU W1 1 c1) (Quiet.load 7 g12 0 33 31 31 (AO dU W1 1 c1).toArray _ _ U kR kR DV U kR _ (DI hdUl) (E5 hdUl))<|Sy.callN kR 86 #[AM dU W1 1 c1] kF _ (λw hw=>by have u:=hU1.2 w _ hw (λb hb=>List.mem_append.2 (.inr hb)); have q:=PW w dU hdUl W1 1 c1 sa1 (λ_=>n) sc1 zS hzS4 dZ (λ_ _=>hn) u.1 u.2 dZ (by show 0+n≤_; omega) hU1.1; rw [← hl0] at q; exact q) (λv M3 hR0=>?_)
    obtain ⟨y3,rfl,rfl,hy3⟩:=hR0
    obtain ⟨A3,c3,hv3,hl3,hc3,hs3⟩:=F2 hy3
    have hr7:Slc.Is ⟨.slice (pA g7) 1 1,[(g7,5,#[bv (UInt8.ofNat n)])]⟩ 5 1 (Aj [UInt8.ofNat n]):=Slc.Is.mk' (cs:=[bv (UInt8.ofNat n)]) (Bb _) (BE _) rfl U U (Nat.le_refl _) dZ
    refine Sy.permS (M:=[(g0,23,(sd.map bv).toArray),(g1,48,(pcs ax ay ai)),(g2,42,(fcs kx)),(yT ax ay ai (gt)),(yA fK n (ga)),(yR n (ga) (gr)),(zX z kx (gs)),(g12,31,(AO dU W1 1 c1).toArray)]++([(g7,5,#[bv (UInt8.ofNat n)])]++(M1++(y3.bl++[])))) (by simp only [List.append_assoc,List.append_nil]; exact List.Perm.refl _)<|Sy.appendM kR 24 5 _ _ 1 1 Ci Dg U U U U dZ _ _ U (ys:=Aj l0) hr7 kR (Bb _) (BE _) A3 l0.length c3 (Am _) hl3 (by rw [← hv3]; kernel_rfl) (λr=>From.srcL (λw hw=>hs3 hw (λb hb=>by simp only [List.mem_append]; exact .inr (.inr (.inr (.inl hb)))))) (by rw [Am]; show (1+l0.length)*1≤_; omega) (by rw [Am]; show 1+l0.length≤_; simp only [maxLen]; omega) (λr hr=>?_)
    refine sP r.v<|sP (.int .i64 0)<|sG<|Sy.ret ?_
    have e1:sjL sd ax ay ai X Y I n z kx=UInt8.ofNat n::l0:=by unfold sjL; rw [← hdS, ← hzS,hl0]
    rw [e1]
    exact BD r.bl U (v:=r.v) (u:=.int .i64 0) (.inl (show _=_ by kernel_rfl)) (.inl (show _=_ by kernel_rfl)) (λw hw=>St.less hw ((List.sublist_append_left _ _).trans (List.sublist_append_right _ _))) (.inr (.inr ⟨rfl,rfl,r,rfl,rfl,hr⟩))
   ·have he1:=dY hb4
    have hbb:bf=false:=by
     rw [hen] at he1
     cases bf <;> first | rfl | exact absurd U he1
    subst hbb
    refine sT<|sC<|sP (.slice none 0 0)<|sP (.int .i64 101)<|sG<|Sy.ret<|Sy.then_ret ?_
    exact BD [] rfl (v:=.slice none 0 0) (u:=.int .i64 101) (.inl (show _=_ by kernel_rfl)) (.inl (show _=_ by kernel_rfl)) (λ_ hw=>hw.none) (.inr (.inl ⟨rfl,rfl,rfl,rfl⟩))
  ·refine Sy.anyOf [2,9,14] kZ dZ (Sy.each3 ?_ ?_ ?_)
   ·refine Sy.oneCallN U kZ 84 #[pv ax ay ai] kF (Cb (dec ax ay ai)) (λw _=>Ct w ax ay ai hax hay) (λv M hR0=>?_)
    obtain ⟨gt,rfl,rfl⟩:=hR0
    refine Sy.anyOf [5,9,14] kZ dZ (Sy.each3 ?_ ?_ ?_)
    ·refine Sy.oneCallN U kZ 85 #[.slice A n c,pv ax ay ai] kF (Fq fK n) hc5 (λv M hR0=>?_)
     obtain ⟨ga,gr,rfl,rfl⟩:=hR0
     refine Sy.anyOf [9,14] kZ dZ (Sy.each2 ?_ ?_)
     ·refine Sy.oneMake U kZ 44 (BV z kx).toArray (λg=>.slice (pA g) 1 1) kF (λgs=>?_)
      refine Sy.anyOf [10,14] kZ dZ (Sy.each2 ?_ ?_)
      ·refine Sy.oneCallN U kZ 10 #[.agg (sd.map bv).toArray,.slice (pA gt) 33 33,.slice (pA gr) 1 1,.slice (pA gs) 1 1] kF (Cr (Base.of w) dU NU (λ_=>n) zS (.int .i64 en)) (λw' hw=>hsign w' hw gt ga gr gs (hw.get (i:=3) rfl) (hw.get (i:=4) rfl) (hw.get (i:=5) rfl) (hw.get (i:=6) rfl)) (λv M1 hR0=>?_)
       obtain ⟨W1,c1,sa1,sc1,rfl,hU1⟩:=hR0
       refine sZ 11 U (.tuple #[AM dU W1 NU c1,.int .i64 en])<|sZ 12 U (AM dU W1 NU c1)<|Sy.stepDA 13 U kR (λ_ _ _ _ h=>h) kR (.int .i64 en) kF<|Sy.makeD 14 U kR kR 31 zS33.toArray ptr kF (λg12=>?_)
       exact Bc fin (gt,ga,gr,gs,g12,W1,c1,M1) ⟨sa1,sc1,hU1⟩ kR ac4 (Sy.flat_perm (ls:=[zB sd ax ay ai kx g0 g1 g2,[(yT ax ay ai (gt))],[(yA fK n (ga))],[(yR n (ga) (gr))],[(zX z kx (gs))],M1,[(zW (g12))]]) (ms:=[zB sd ax ay ai kx g0 g1 g2,[(yT ax ay ai (gt))],[(yA fK n (ga))],[(yR n (ga) (gr))],[(zX z kx (gs))],[(zW (g12))],M1]) [0,1,2,3,4,6,5] kZ (by rfl) (by simp) (by simp))
      ·refine Sy.oneMake U kZ 31 zS33.toArray ptr kF (λg12=>?_)
       refine Sy.callND 10 U kR kR 10 #[.agg (sd.map bv).toArray,.slice (pA gt) 33 33,.slice (pA gr) 1 1,.slice (pA gs) 1 1] kF (Cr (Base.of w) dU NU (λ_=>n) zS (.int .i64 en)) (λw' hw=>hsign w' hw gt ga gr gs (hw.get (i:=3) rfl) (hw.get (i:=4) rfl) (hw.get (i:=5) rfl) (hw.get (i:=6) rfl)) (λv M1 hR0=>?_)
       obtain ⟨W1,c1,sa1,sc1,rfl,hU1⟩:=hR0
       refine sZ 11 U (.tuple #[AM dU W1 NU c1,.int .i64 en])<|sZ 12 U (AM dU W1 NU c1)<|Sy.stepDA 13 U kR (λ_ _ _ _ h=>h) kR (.int .i64 en) kF ?_
       exact Bc fin (gt,ga,gr,gs,g12,W1,c1,M1) ⟨sa1,sc1,hU1⟩ kR ac4 (Sy.flat_perm (ls:=[zB sd ax ay ai kx g0 g1 g2,[(yT ax ay ai (gt))],[(yA fK n (ga))],[(yR n (ga) (gr))],[(zX z kx (gs))],[(zW (g12))],M1]) (ms:=[zB sd ax ay ai kx g0 g1 g2,[(yT ax ay ai (gt))],[(yA fK n (ga))],[(yR n (ga) (gr))],[(zX z kx (gs))],[(zW (g12))],M1]) [0,1,2,3,4,5,6] kZ (by rfl) (by simp) (by simp))
     ·refine Sy.oneMake U kZ 31 zS33.toArray ptr kF (λg12=>?_)
      refine Sy.makeD 9 U kR kR 44 (BV z kx).toArray (λg=>.slice (pA g) 1 1) kF (λgs=>?_)
      refine Sy.callND 10 U kR kR 10 #[.agg (sd.map bv).toArray,.slice (pA gt) 33 33,.slice (pA gr) 1 1,.slice (pA gs) 1 1] kF (Cr (Base.of w) dU NU (λ_=>n) zS (.int .i64 en)) (λw' hw=>hsign w' hw gt ga gr gs (hw.get (i:=3) rfl) (hw.get (i:=4) rfl) (hw.get (i:=5) rfl) (hw.get (i:=7) rfl)) (λv M1 hR0=>?_)
      obtain ⟨W1,c1,sa1,sc1,rfl,hU1⟩:=hR0
      refine sZ 11 U (.tuple #[AM dU W1 NU c1,.int .i64 en])<|sZ 12 U (AM dU W1 NU c1)<|Sy.stepDA 13 U kR (λ_ _ _ _ h=>h) kR (.int .i64 en) kF ?_
      exact Bc fin (gt,ga,gr,gs,g12,W1,c1,M1) ⟨sa1,sc1,hU1⟩ kR ac4 (Sy.flat_perm (ls:=[zB sd ax ay ai kx g0 g1 g2,[(yT ax ay ai (gt))],[(yA fK n (ga))],[(yR n (ga) (gr))],[(zW (g12))],[(zX z kx (gs))],M1]) (ms:=[zB sd ax ay ai kx g0 g1 g2,[(yT ax ay ai (gt))],[(yA fK n (ga))],[(yR n (ga) (gr))],[(zX z kx (gs))],[(zW (g12))],M1]) [0,1,2,3,5,4,6] kZ (by rfl) (by simp) (by simp))
    ·refine Sy.oneMake U kZ 44 (BV z kx).toArray (λg=>.slice (pA g) 1 1) kF (λgs=>?_)
     refine Sy.anyOf [5,14] kZ dZ (Sy.each2 ?_ ?_)
     ·refine Sy.oneCallN U kZ 85 #[.slice A n c,pv ax ay ai] kF (Fq fK n) hc5 (λv M hR0=>?_)
      obtain ⟨ga,gr,rfl,rfl⟩:=hR0
      refine Sy.anyOf [10,14] kZ dZ (Sy.each2 ?_ ?_)
      ·refine Sy.oneCallN U kZ 10 #[.agg (sd.map bv).toArray,.slice (pA gt) 33 33,.slice (pA gr) 1 1,.slice (pA gs) 1 1] kF (Cr (Base.of w) dU NU (λ_=>n) zS (.int .i64 en)) (λw' hw=>hsign w' hw gt ga gr gs (hw.get (i:=3) rfl) (hw.get (i:=5) rfl) (hw.get (i:=6) rfl) (hw.get (i:=4) rfl)) (λv M1 hR0=>?_)
       obtain ⟨W1,c1,sa1,sc1,rfl,hU1⟩:=hR0
       refine sZ 11 U (.tuple #[AM dU W1 NU c1,.int .i64 en])<|sZ 12 U (AM dU W1 NU c1)<|Sy.stepDA 13 U kR (λ_ _ _ _ h=>h) kR (.int .i64 en) kF<|Sy.makeD 14 U kR kR 31 zS33.toArray ptr kF (λg12=>?_)
       exact Bc fin (gt,ga,gr,gs,g12,W1,c1,M1) ⟨sa1,sc1,hU1⟩ kR ac4 (Sy.flat_perm (ls:=[zB sd ax ay ai kx g0 g1 g2,[(yT ax ay ai (gt))],[(zX z kx (gs))],[(yA fK n (ga))],[(yR n (ga) (gr))],M1,[(zW (g12))]]) (ms:=[zB sd ax ay ai kx g0 g1 g2,[(yT ax ay ai (gt))],[(yA fK n (ga))],[(yR n (ga) (gr))],[(zX z kx (gs))],[(zW (g12))],M1]) [0,1,3,4,2,6,5] kZ (by rfl) (by simp) (by simp))
      ·refine Sy.oneMake U kZ 31 zS33.toArray ptr kF (λg12=>?_)
       refine Sy.callND 10 U kR kR 10 #[.agg (sd.map bv).toArray,.slice (pA gt) 33 33,.slice (pA gr) 1 1,.slice (pA gs) 1 1] kF (Cr (Base.of w) dU NU (λ_=>n) zS (.int .i64 en)) (λw' hw=>hsign w' hw gt ga gr gs (hw.get (i:=3) rfl) (hw.get (i:=5) rfl) (hw.get (i:=6) rfl) (hw.get (i:=4) rfl)) (λv M1 hR0=>?_)
       obtain ⟨W1,c1,sa1,sc1,rfl,hU1⟩:=hR0
       refine sZ 11 U (.tuple #[AM dU W1 NU c1,.int .i64 en])<|sZ 12 U (AM dU W1 NU c1)<|Sy.stepDA 13 U kR (λ_ _ _ _ h=>h) kR (.int .i64 en) kF ?_
       exact Bc fin (gt,ga,gr,gs,g12,W1,c1,M1) ⟨sa1,sc1,hU1⟩ kR ac4 (Sy.flat_perm (ls:=[zB sd ax ay ai kx g0 g1 g2,[(yT ax ay ai (gt))],[(zX z kx (gs))],[(yA fK n (ga))],[(yR n (ga) (gr))],[(zW (g12))],M1]) (ms:=[zB sd ax ay ai kx g0 g1 g2,[(yT ax ay ai (gt))],[(yA fK n (ga))],[(yR n (ga) (gr))],[(zX z kx (gs))],[(zW (g12))],M1]) [0,1,3,4,2,5,6] kZ (by rfl) (by simp) (by simp))
     ·refine Sy.oneMake U kZ 31 zS33.toArray ptr kF (λg12=>?_)
      refine Sy.callND 5 U kR kR 85 #[.slice A n c,pv ax ay ai] kF (Fq fK n) hc5 (λv M hR0=>?_)
      obtain ⟨ga,gr,rfl,rfl⟩:=hR0
      refine Sy.callND 10 U kR kR 10 #[.agg (sd.map bv).toArray,.slice (pA gt) 33 33,.slice (pA gr) 1 1,.slice (pA gs) 1 1] kF (Cr (Base.of w) dU NU (λ_=>n) zS (.int .i64 en)) (λw' hw=>hsign w' hw gt ga gr gs (hw.get (i:=3) rfl) (hw.get (i:=6) rfl) (hw.get (i:=7) rfl) (hw.get (i:=4) rfl)) (λv M1 hR0=>?_)
      obtain ⟨W1,c1,sa1,sc1,rfl,hU1⟩:=hR0
      refine sZ 11 U (.tuple #[AM dU W1 NU c1,.int .i64 en])<|sZ 12 U (AM dU W1 NU c1)<|Sy.stepDA 13 U kR (λ_ _ _ _ h=>h) kR (.int .i64 en) kF ?_
      exact Bc fin (gt,ga,gr,gs,g12,W1,c1,M1) ⟨sa1,sc1,hU1⟩ kR ac4 (Sy.flat_perm (ls:=[zB sd ax ay ai kx g0 g1 g2,[(yT ax ay ai (gt))],[(zX z kx (gs))],[(zW (g12))],[(yA fK n (ga))],[(yR n (ga) (gr))],M1]) (ms:=[zB sd ax ay ai kx g0 g1 g2,[(yT ax ay ai (gt))],[(yA fK n (ga))],[(yR n (ga) (gr))],[(zX z kx (gs))],[(zW (g12))],M1]) [0,1,4,5,2,3,6] kZ (by rfl) (by simp) (by simp))
    ·refine Sy.oneMake U kZ 31 zS33.toArray ptr kF (λg12=>?_)
     refine Sy.anyOf [5,9] kZ dZ (Sy.each2 ?_ ?_)
     ·refine Sy.oneCallN U kZ 85 #[.slice A n c,pv ax ay ai] kF (Fq fK n) hc5 (λv M hR0=>?_)
      obtain ⟨ga,gr,rfl,rfl⟩:=hR0
      refine Sy.makeD 9 U kR kR 44 (BV z kx).toArray (λg=>.slice (pA g) 1 1) kF (λgs=>?_)
      refine Sy.callND 10 U kR kR 10 #[.agg (sd.map bv).toArray,.slice (pA gt) 33 33,.slice (pA gr) 1 1,.slice (pA gs) 1 1] kF (Cr (Base.of w) dU NU (λ_=>n) zS (.int .i64 en)) (λw' hw=>hsign w' hw gt ga gr gs (hw.get (i:=3) rfl) (hw.get (i:=5) rfl) (hw.get (i:=6) rfl) (hw.get (i:=7) rfl)) (λv M1 hR0=>?_)
      obtain ⟨W1,c1,sa1,sc1,rfl,hU1⟩:=hR0
      refine sZ 11 U (.tuple #[AM dU W1 NU c1,.int .i64 en])<|sZ 12 U (AM dU W1 NU c1)<|Sy.stepDA 13 U kR (λ_ _ _ _ h=>h) kR (.int .i64 en) kF ?_
      exact Bc fin (gt,ga,gr,gs,g12,W1,c1,M1) ⟨sa1,sc1,hU1⟩ kR ac4 (Sy.flat_perm (ls:=[zB sd ax ay ai kx g0 g1 g2,[(yT ax ay ai (gt))],[(zW (g12))],[(yA fK n (ga))],[(yR n (ga) (gr))],[(zX z kx (gs))],M1]) (ms:=[zB sd ax ay ai kx g0 g1 g2,[(yT ax ay ai (gt))],[(yA fK n (ga))],[(yR n (ga) (gr))],[(zX z kx (gs))],[(zW (g12))],M1]) [0,1,3,4,5,2,6] kZ (by rfl) (by simp) (by simp))
     ·refine Sy.oneMake U kZ 44 (BV z kx).toArray (λg=>.slice (pA g) 1 1) kF (λgs=>?_)
      refine Sy.callND 5 U kR kR 85 #[.slice A n c,pv ax ay ai] kF (Fq fK n) hc5 (λv M hR0=>?_)
      obtain ⟨ga,gr,rfl,rfl⟩:=hR0
      refine Sy.callND 10 U kR kR 10 #[.agg (sd.map bv).toArray,.slice (pA gt) 33 33,.slice (pA gr) 1 1,.slice (pA gs) 1 1] kF (Cr (Base.of w) dU NU (λ_=>n) zS (.int .i64 en)) (λw' hw=>hsign w' hw gt ga gr gs (hw.get (i:=3) rfl) (hw.get (i:=6) rfl) (hw.get (i:=7) rfl) (hw.get (i:=5) rfl)) (λv M1 hR0=>?_)
      obtain ⟨W1,c1,sa1,sc1,rfl,hU1⟩:=hR0
      refine sZ 11 U (.tuple #[AM dU W1 NU c1,.int .i64 en])<|sZ 12 U (AM dU W1 NU c1)<|Sy.stepDA 13 U kR (λ_ _ _ _ h=>h) kR (.int .i64 en) kF ?_
      exact Bc fin (gt,ga,gr,gs,g12,W1,c1,M1) ⟨sa1,sc1,hU1⟩ kR ac4 (Sy.flat_perm (ls:=[zB sd ax ay ai kx g0 g1 g2,[(yT ax ay ai (gt))],[(zW (g12))],[(zX z kx (gs))],[(yA fK n (ga))],[(yR n (ga) (gr))],M1]) (ms:=[zB sd ax ay ai kx g0 g1 g2,[(yT ax ay ai (gt))],[(yA fK n (ga))],[(yR n (ga) (gr))],[(zX z kx (gs))],[(zW (g12))],M1]) [0,1,4,5,3,2,6] kZ (by rfl) (by simp) (by simp))
   ·refine Sy.oneMake U kZ 44 (BV z kx).toArray (λg=>.slice (pA g) 1 1) kF (λgs=>?_)
    refine Sy.anyOf [2,14] kZ dZ (Sy.each2 ?_ ?_)
    ·refine Sy.oneCallN U kZ 84 #[pv ax ay ai] kF (Cb (dec ax ay ai)) (λw _=>Ct w ax ay ai hax hay) (λv M hR0=>?_)
     obtain ⟨gt,rfl,rfl⟩:=hR0
     refine Sy.anyOf [5,14] kZ dZ (Sy.each2 ?_ ?_)
     ·refine Sy.oneCallN U kZ 85 #[.slice A n c,pv ax ay ai] kF (Fq fK n) hc5 (λv M hR0=>?_)
      obtain ⟨ga,gr,rfl,rfl⟩:=hR0
      refine Sy.anyOf [10,14] kZ dZ (Sy.each2 ?_ ?_)
      ·refine Sy.oneCallN U kZ 10 #[.agg (sd.map bv).toArray,.slice (pA gt) 33 33,.slice (pA gr) 1 1,.slice (pA gs) 1 1] kF (Cr (Base.of w) dU NU (λ_=>n) zS (.int .i64 en)) (λw' hw=>hsign w' hw gt ga gr gs (hw.get (i:=4) rfl) (hw.get (i:=5) rfl) (hw.get (i:=6) rfl) (hw.get (i:=3) rfl)) (λv M1 hR0=>?_)
       obtain ⟨W1,c1,sa1,sc1,rfl,hU1⟩:=hR0
       refine sZ 11 U (.tuple #[AM dU W1 NU c1,.int .i64 en])<|sZ 12 U (AM dU W1 NU c1)<|Sy.stepDA 13 U kR (λ_ _ _ _ h=>h) kR (.int .i64 en) kF<|Sy.makeD 14 U kR kR 31 zS33.toArray ptr kF (λg12=>?_)
       exact Bc fin (gt,ga,gr,gs,g12,W1,c1,M1) ⟨sa1,sc1,hU1⟩ kR ac4 (Sy.flat_perm (ls:=[zB sd ax ay ai kx g0 g1 g2,[(zX z kx (gs))],[(yT ax ay ai (gt))],[(yA fK n (ga))],[(yR n (ga) (gr))],M1,[(zW (g12))]]) (ms:=[zB sd ax ay ai kx g0 g1 g2,[(yT ax ay ai (gt))],[(yA fK n (ga))],[(yR n (ga) (gr))],[(zX z kx (gs))],[(zW (g12))],M1]) [0,2,3,4,1,6,5] kZ (by rfl) (by simp) (by simp))
      ·refine Sy.oneMake U kZ 31 zS33.toArray ptr kF (λg12=>?_)
       refine Sy.callND 10 U kR kR 10 #[.agg (sd.map bv).toArray,.slice (pA gt) 33 33,.slice (pA gr) 1 1,.slice (pA gs) 1 1] kF (Cr (Base.of w) dU NU (λ_=>n) zS (.int .i64 en)) (λw' hw=>hsign w' hw gt ga gr gs (hw.get (i:=4) rfl) (hw.get (i:=5) rfl) (hw.get (i:=6) rfl) (hw.get (i:=3) rfl)) (λv M1 hR0=>?_)
       obtain ⟨W1,c1,sa1,sc1,rfl,hU1⟩:=hR0
       refine sZ 11 U (.tuple #[AM dU W1 NU c1,.int .i64 en])<|sZ 12 U (AM dU W1 NU c1)<|Sy.stepDA 13 U kR (λ_ _ _ _ h=>h) kR (.int .i64 en) kF ?_
       exact Bc fin (gt,ga,gr,gs,g12,W1,c1,M1) ⟨sa1,sc1,hU1⟩ kR ac4 (Sy.flat_perm (ls:=[zB sd ax ay ai kx g0 g1 g2,[(zX z kx (gs))],[(yT ax ay ai (gt))],[(yA fK n (ga))],[(yR n (ga) (gr))],[(zW (g12))],M1]) (ms:=[zB sd ax ay ai kx g0 g1 g2,[(yT ax ay ai (gt))],[(yA fK n (ga))],[(yR n (ga) (gr))],[(zX z kx (gs))],[(zW (g12))],M1]) [0,2,3,4,1,5,6] kZ (by rfl) (by simp) (by simp))
     ·refine Sy.oneMake U kZ 31 zS33.toArray ptr kF (λg12=>?_)
      refine Sy.callND 5 U kR kR 85 #[.slice A n c,pv ax ay ai] kF (Fq fK n) hc5 (λv M hR0=>?_)
      obtain ⟨ga,gr,rfl,rfl⟩:=hR0
      refine Sy.callND 10 U kR kR 10 #[.agg (sd.map bv).toArray,.slice (pA gt) 33 33,.slice (pA gr) 1 1,.slice (pA gs) 1 1] kF (Cr (Base.of w) dU NU (λ_=>n) zS (.int .i64 en)) (λw' hw=>hsign w' hw gt ga gr gs (hw.get (i:=4) rfl) (hw.get (i:=6) rfl) (hw.get (i:=7) rfl) (hw.get (i:=3) rfl)) (λv M1 hR0=>?_)
      obtain ⟨W1,c1,sa1,sc1,rfl,hU1⟩:=hR0
      refine sZ 11 U (.tuple #[AM dU W1 NU c1,.int .i64 en])<|sZ 12 U (AM dU W1 NU c1)<|Sy.stepDA 13 U kR (λ_ _ _ _ h=>h) kR (.int .i64 en) kF ?_
      exact Bc fin (gt,ga,gr,gs,g12,W1,c1,M1) ⟨sa1,sc1,hU1⟩ kR ac4 (Sy.flat_perm (ls:=[zB sd ax ay ai kx g0 g1 g2,[(zX z kx (gs))],[(yT ax ay ai (gt))],[(zW (g12))],[(yA fK n (ga))],[(yR n (ga) (gr))],M1]) (ms:=[zB sd ax ay ai kx g0 g1 g2,[(yT ax ay ai (gt))],[(yA fK n (ga))],[(yR n (ga) (gr))],[(zX z kx (gs))],[(zW (g12))],M1]) [0,2,4,5,1,3,6] kZ (by rfl) (by simp) (by simp))
    ·refine Sy.oneMake U kZ 31 zS33.toArray ptr kF (λg12=>?_)
     refine Sy.callND 2 U kR kR 84 #[pv ax ay ai] kF (Cb (dec ax ay ai)) (λw _=>Ct w ax ay ai hax hay) (λv M hR0=>?_)
     obtain ⟨gt,rfl,rfl⟩:=hR0
     refine Sy.callND 5 U kR kR 85 #[.slice A n c,pv ax ay ai] kF (Fq fK n) hc5 (λv M hR0=>?_)
     obtain ⟨ga,gr,rfl,rfl⟩:=hR0
     refine Sy.callND 10 U kR kR 10 #[.agg (sd.map bv).toArray,.slice (pA gt) 33 33,.slice (pA gr) 1 1,.slice (pA gs) 1 1] kF (Cr (Base.of w) dU NU (λ_=>n) zS (.int .i64 en)) (λw' hw=>hsign w' hw gt ga gr gs (hw.get (i:=5) rfl) (hw.get (i:=6) rfl) (hw.get (i:=7) rfl) (hw.get (i:=3) rfl)) (λv M1 hR0=>?_)
     obtain ⟨W1,c1,sa1,sc1,rfl,hU1⟩:=hR0
     refine sZ 11 U (.tuple #[AM dU W1 NU c1,.int .i64 en])<|sZ 12 U (AM dU W1 NU c1)<|Sy.stepDA 13 U kR (λ_ _ _ _ h=>h) kR (.int .i64 en) kF ?_
     exact Bc fin (gt,ga,gr,gs,g12,W1,c1,M1) ⟨sa1,sc1,hU1⟩ kR ac4 (Sy.flat_perm (ls:=[zB sd ax ay ai kx g0 g1 g2,[(zX z kx (gs))],[(zW (g12))],[(yT ax ay ai (gt))],[(yA fK n (ga))],[(yR n (ga) (gr))],M1]) (ms:=[zB sd ax ay ai kx g0 g1 g2,[(yT ax ay ai (gt))],[(yA fK n (ga))],[(yR n (ga) (gr))],[(zX z kx (gs))],[(zW (g12))],M1]) [0,3,4,5,1,2,6] kZ (by rfl) (by simp) (by simp))
   ·refine Sy.oneMake U kZ 31 zS33.toArray ptr kF (λg12=>?_)
    refine Sy.anyOf [2,9] kZ dZ (Sy.each2 ?_ ?_)
    ·refine Sy.oneCallN U kZ 84 #[pv ax ay ai] kF (Cb (dec ax ay ai)) (λw _=>Ct w ax ay ai hax hay) (λv M hR0=>?_)
     obtain ⟨gt,rfl,rfl⟩:=hR0
     refine Sy.anyOf [5,9] kZ dZ (Sy.each2 ?_ ?_)
     ·refine Sy.oneCallN U kZ 85 #[.slice A n c,pv ax ay ai] kF (Fq fK n) hc5 (λv M hR0=>?_)
      obtain ⟨ga,gr,rfl,rfl⟩:=hR0
      refine Sy.makeD 9 U kR kR 44 (BV z kx).toArray (λg=>.slice (pA g) 1 1) kF (λgs=>?_)
      refine Sy.callND 10 U kR kR 10 #[.agg (sd.map bv).toArray,.slice (pA gt) 33 33,.slice (pA gr) 1 1,.slice (pA gs) 1 1] kF (Cr (Base.of w) dU NU (λ_=>n) zS (.int .i64 en)) (λw' hw=>hsign w' hw gt ga gr gs (hw.get (i:=4) rfl) (hw.get (i:=5) rfl) (hw.get (i:=6) rfl) (hw.get (i:=7) rfl)) (λv M1 hR0=>?_)
      obtain ⟨W1,c1,sa1,sc1,rfl,hU1⟩:=hR0
      refine sZ 11 U (.tuple #[AM dU W1 NU c1,.int .i64 en])<|sZ 12 U (AM dU W1 NU c1)<|Sy.stepDA 13 U kR (λ_ _ _ _ h=>h) kR (.int .i64 en) kF ?_
      exact Bc fin (gt,ga,gr,gs,g12,W1,c1,M1) ⟨sa1,sc1,hU1⟩ kR ac4 (Sy.flat_perm (ls:=[zB sd ax ay ai kx g0 g1 g2,[(zW (g12))],[(yT ax ay ai (gt))],[(yA fK n (ga))],[(yR n (ga) (gr))],[(zX z kx (gs))],M1]) (ms:=[zB sd ax ay ai kx g0 g1 g2,[(yT ax ay ai (gt))],[(yA fK n (ga))],[(yR n (ga) (gr))],[(zX z kx (gs))],[(zW (g12))],M1]) [0,2,3,4,5,1,6] kZ (by rfl) (by simp) (by simp))
     ·refine Sy.oneMake U kZ 44 (BV z kx).toArray (λg=>.slice (pA g) 1 1) kF (λgs=>?_)
      refine Sy.callND 5 U kR kR 85 #[.slice A n c,pv ax ay ai] kF (Fq fK n) hc5 (λv M hR0=>?_)
      obtain ⟨ga,gr,rfl,rfl⟩:=hR0
      refine Sy.callND 10 U kR kR 10 #[.agg (sd.map bv).toArray,.slice (pA gt) 33 33,.slice (pA gr) 1 1,.slice (pA gs) 1 1] kF (Cr (Base.of w) dU NU (λ_=>n) zS (.int .i64 en)) (λw' hw=>hsign w' hw gt ga gr gs (hw.get (i:=4) rfl) (hw.get (i:=6) rfl) (hw.get (i:=7) rfl) (hw.get (i:=5) rfl)) (λv M1 hR0=>?_)
      obtain ⟨W1,c1,sa1,sc1,rfl,hU1⟩:=hR0
      refine sZ 11 U (.tuple #[AM dU W1 NU c1,.int .i64 en])<|sZ 12 U (AM dU W1 NU c1)<|Sy.stepDA 13 U kR (λ_ _ _ _ h=>h) kR (.int .i64 en) kF ?_
      exact Bc fin (gt,ga,gr,gs,g12,W1,c1,M1) ⟨sa1,sc1,hU1⟩ kR ac4 (Sy.flat_perm (ls:=[zB sd ax ay ai kx g0 g1 g2,[(zW (g12))],[(yT ax ay ai (gt))],[(zX z kx (gs))],[(yA fK n (ga))],[(yR n (ga) (gr))],M1]) (ms:=[zB sd ax ay ai kx g0 g1 g2,[(yT ax ay ai (gt))],[(yA fK n (ga))],[(yR n (ga) (gr))],[(zX z kx (gs))],[(zW (g12))],M1]) [0,2,4,5,3,1,6] kZ (by rfl) (by simp) (by simp))
    ·refine Sy.oneMake U kZ 44 (BV z kx).toArray (λg=>.slice (pA g) 1 1) kF (λgs=>?_)
     refine Sy.callND 2 U kR kR 84 #[pv ax ay ai] kF (Cb (dec ax ay ai)) (λw _=>Ct w ax ay ai hax hay) (λv M hR0=>?_)
     obtain ⟨gt,rfl,rfl⟩:=hR0
     refine Sy.callND 5 U kR kR 85 #[.slice A n c,pv ax ay ai] kF (Fq fK n) hc5 (λv M hR0=>?_)
     obtain ⟨ga,gr,rfl,rfl⟩:=hR0
     refine Sy.callND 10 U kR kR 10 #[.agg (sd.map bv).toArray,.slice (pA gt) 33 33,.slice (pA gr) 1 1,.slice (pA gs) 1 1] kF (Cr (Base.of w) dU NU (λ_=>n) zS (.int .i64 en)) (λw' hw=>hsign w' hw gt ga gr gs (hw.get (i:=5) rfl) (hw.get (i:=6) rfl) (hw.get (i:=7) rfl) (hw.get (i:=4) rfl)) (λv M1 hR0=>?_)
     obtain ⟨W1,c1,sa1,sc1,rfl,hU1⟩:=hR0
     refine sZ 11 U (.tuple #[AM dU W1 NU c1,.int .i64 en])<|sZ 12 U (AM dU W1 NU c1)<|Sy.stepDA 13 U kR (λ_ _ _ _ h=>h) kR (.int .i64 en) kF ?_
     exact Bc fin (gt,ga,gr,gs,g12,W1,c1,M1) ⟨sa1,sc1,hU1⟩ kR ac4 (Sy.flat_perm (ls:=[zB sd ax ay ai kx g0 g1 g2,[(zW (g12))],[(zX z kx (gs))],[(yT ax ay ai (gt))],[(yA fK n (ga))],[(yR n (ga) (gr))],M1]) (ms:=[zB sd ax ay ai kx g0 g1 g2,[(yT ax ay ai (gt))],[(yA fK n (ga))],[(yR n (ga) (gr))],[(zX z kx (gs))],[(zW (g12))],M1]) [0,3,4,5,2,1,6] kZ (by rfl) (by simp) (by simp))
end Cu
end
section
namespace Cu
open Go.RowKit Sy
theorem Pj (w:World) (F:AN) (o:Oper) (x:Operand) (u:UInt8) (ho:o.op=.convert 5 3 x) (hx:evF F x=bv u):(execOp (evF F) o).run Tryz.prog w=.ok (.value (iZ u.toNat)) w:=by
 have hu:=u.toNat_lt
 have e:(convert 5 3 (.int .u8 ((u.toNat:Nat):Int))).run Tryz.prog w=.ok (iZ u.toNat) w:=by
  go_simp
  exact ET om om
 unfold execOp
 simp only [ho,hx,bv,e,Sem.run_bind,Sem.run_pure,Result.andThen_ok]
section
variable (ax ay:Nat) (ai:Bool) (X Y:Nat→Nat) (I:Nat→Bool) (n:Nat) (m:List UInt8)
def sjV:Bool:=Kh (m.drop 1) (λ_=>((n:Nat):Int)) 1 && vfB (Av (dec ax ay ai)) 1 (λ_=>n) (sjX ax ay ai X Y I) (sjY ax ay ai X Y I) (sjI ax ay ai X Y I) (nmD (m.drop 1) λ_=>n) ((m.drop 1).take 32) 1 (λ_=>n)
def sjB:Bool:=EJ n && (!decide (m.length=0) && (!decide ((m.getD 0 0).toNat≠n) && sjV ax ay ai X Y I n m))
end
theorem NH {w:World} {g o q cp:Nat} {m:List UInt8} (hm:m.length=q) (hq:1≤q) (hcp:q≤cp) (hc:∀ j u,m[j]? = some u→w.cell? ⟨g,o+j,none⟩=some (bv u)) (hg:g<w.heap.size):Sh.Src w (some ⟨g,if cp=1 then o else o+1*1,none⟩) (m.drop 1):=λhne=>by
 have hl:0<(m.drop 1).length:=List.length_pos_iff.2 hne
 rw [List.length_drop] at hl
 refine ⟨g,_,rfl,hg,λj u hj=>?_⟩
 rw [List.getElem?_drop] at hj
 rw [if_neg om,show o+1*1+j=o+(1+j) by omega]
 exact hc _ u hj
theorem I4 (w:World) (A:Option Addr) (n c:Nat) (X Y:Nat→Nat) (I:Nat→Bool) (hX:∀ k,X k<K4) (hY:∀ k,Y k<K4) (hn:n≤9223372036854775807) (ax ay:Nat) (ai:Bool) (hax:ax<K4) (hay:ay<K4) (B:Option Addr) (m:List UInt8) (q cp:Nat) (hm:m.length=q) (hq9:q≤999000000) (hcp:q≤cp) (hcp2:cp≤9223372036854775807) (hs:Sh.Src w B m)
  (hlk:(m.getD 0 0).toNat=n→Lst w 9 A n (λk=>pml (X k) (Y k) (I k))) (ht:Sh.TabAt w 1) :
  Calls Tryz.prog 34 #[.slice A n c,pv ax ay ai,.slice B q cp] w (Gets w (.bool (sjB ax ay ai X Y I n m))):=by
 obtain ⟨b1,hb1⟩:=xE (EJ n)
 unfold sjB
 rw [← hb1]
 refine Sy.enter (args:=[.slice A n c,pv ax ay ai,.slice B q cp]) Tryz.func34 U kL<|sC<|sM 48 (pcs ax ay ai) (λg0=>?_)
 refine sP (.bool false)<|sG<|Sy.seq<|sC<|sP (.slice A n c)<|sP (iZ n)<|sS (.bool b1) (qG 83 #[iZ n] (λw hw=>by rw [hb1]; exact GQ w n hn)) ?_
 cases b1
 ·refine sP (.bool true)<|sP (.bool true)<|sN<|sN<|sN<|sP (.bool true)<|sP (.bool true)<|sN<|sN<|sN<|sN<|sN<|sN<|sN<|sP (.bool true) ?_
  refine sG<|sT<|sC<|sP (.bool false)<|sG<|Sy.ret<|Sy.then_ret ?_
  exact rV (.bool false) rfl
 ·obtain ⟨b2,hb2⟩:=xE (decide (q=0))
  have hn64:n≤64:=(alw_iff.1 hb1.symm).2
  have hn1:1≤n:=(alw_iff.1 hb1.symm).1
  have hn:n≤4611686018427387904:=Nat.le_trans hn64 dZ
  rw [show decide (m.length=0)=b2 from by rw [hm,hb2]]
  refine sP (.bool false)<|sP (.bool false)<|sP (.slice B q cp)<|sP (iZ q)<|sS (.bool b2) (qeq U U U hb2)<|sP (.bool b2)<|sP (.bool b2) ?_
  cases b2
  ·have hq0:=dN hb2
   have hne:m≠[]:=λe=>by rw [e] at hm; exact hq0 hm.symm
   have hA:=hs hne
   obtain ⟨g,o,rfl,hg,hcl⟩:=hA
   obtain ⟨u0,hu0⟩:=xE (m.getD 0 0)
   have h0:m[0]? = some u0:=by
    rw [hu0,List.getD_eq_getElem?_getD,List.getElem?_eq_getElem om]
    rfl
   rw [← hu0] at hlk ⊢
   obtain ⟨b3,hb3⟩:=xE (decide (u0.toNat≠n))
   have hu:=u0.toNat_lt
   rw [← hb3]
   refine sP (.slice (some ⟨g,o,none⟩) q cp)<|sS (.pointer (some ⟨g,o+0*1,none⟩)) (Quiet.pure (BI 24 _ _ _ g o q cp 0 1 .i64 U U U Ci kF om))<|sS (bv u0) (Quiet.thereOne g (o+0*1) 5 _ _ U kR hg _ (hcl 0 u0 h0) uy5 U)<|sS (iZ u0.toNat) (Quiet.pure (λw=>Pj w _ _ _ u0 U U)) <|
    sP (.slice A n c)<|sP (iZ n)<|sS (.bool b3) (qne U U U hb3)<|sP (.bool b3) ?_
   cases b3
   ·have hun:u0.toNat=n:=Decidable.of_not_not (of_decide_eq_false hb3.symm)
    have hlk:=hlk hun
    obtain ⟨E,hE⟩:∃ E:Nat→Nat,E=λ_=>n:=⟨_,rfl⟩
    have hDI:(λ_:Nat=>(((n:Nat):Int)).toNat)=E:=by rw [hE]; exact funext λ_=>Int.toNat_natCast _
    obtain ⟨b4,hb4⟩:=xE (Kh (m.drop 1) (λ_=>((n:Nat):Int)) 1)
    obtain ⟨d0,hd0_⟩:=xE (uD true b4 ((m.drop 1).take 32))
    obtain ⟨N0,hN0_⟩:=xE (uN true b4 1)
    obtain ⟨s0,hs0_⟩:=xE (nmD (m.drop 1) E)
    have hN0:N0≤1:=by rw [hN0_]; exact TE
    have hd0:d0.length=32:=by
     rw [hd0_]
     unfold uD
     cases b4 with
     | false=>exact List.length_replicate
     | true=>have:=(N_ hb4.symm).2.2.1; show ((m.drop 1).take 32).length=32; rw [List.length_take]; omega
    obtain ⟨fK,hfK⟩:∃ f:Nat→List Value,f=(λj=>pml (pX (BT ax ay ai (X j) (Y j) (I j))) (pY (BT ax ay ai (X j) (Y j) (I j))) (pI (BT ax ay ai (X j) (Y j) (I j)))):=⟨_,rfl⟩
    have hf9:∀ j,(fK j).length=9:=λj=>by rw [hfK]; rfl
    unfold sjV
    rw [← hb4]
    obtain ⟨A2,hA2⟩:∃ a:Addr,a=⟨g,if cp=1 then o else o+1*1,none⟩:=⟨_,rfl⟩
    have hs2:Sh.Src w (some A2) (m.drop 1):=by rw [hA2]; exact NH hm om hcp hcl hg
    refine sG<|sU<|Sy.skip<|sB<|sP (.slice (some ⟨g,o,none⟩) q cp)<|sS (.slice (some A2) (q - 1) (cp - 1)) (Quiet.pure (λw=>by rw [hA2]; exact Ir _ _ _ g o q cp 1 1 .i64 U U U Ci kF om w))<|sP (.slice A n c)<|sP (iZ n)<|Sy.make kR 3 #[iZ n] (λg=>.slice (pA g) 1 1) kF (λg1=>?_)
    refine Sy.callN kR 88 #[.slice (some A2) (q - 1) (cp - 1),.slice (pA g1) 1 1] kF (Cr (Base.of w) d0 N0 E s0 (.bool b4)) (λw' hw=>by
     have q0:=Pe w' (some A2) (m.drop 1) (q - 1) (cp - 1) (by rw [List.length_drop,hm]) om om (hs2.below hw.below) (pA g1) 1 1 (λ_=>((n:Nat):Int)) dZ (DZ (hw.get (i:=1) rfl) rfl)
     rw [hDI, ← hb4] at q0
     rw [hd0_,hN0_,hs0_]
     exact Calls.mono q0 (λe w' ⟨v,M,q1,q2,q3⟩=>⟨v,M,q1,DecR.uniC q2,q3⟩)) (λv M1 hR0=>?_)
    obtain ⟨W1,c1,sa1,sc1,rfl,hU1⟩:=hR0
    refine sP (.tuple #[AM d0 W1 N0 c1,.bool b4])<|sP (AM d0 W1 N0 c1)<|sP (.bool b4)<|sM 31 zS33.toArray (λg2=>?_)
    refine Sy.movT<|sW 2 g2 31 zS33.toArray (AO d0 W1 N0 c1).toArray (Writes.row 31 (AO d0 W1 N0 c1) 33 _ _ U kR kR kR (Ag hd0) (by rw [List.size_toArray,Ag List.length_replicate]) Bo)<|Sy.setT<|sP (.bool b4)<|sH (λj=>false) ?_
    refine sZ 0 U (.bool b4)<|sZ 1 U (.bool b4) ?_
    cases b4
    ·refine sQ 2 U<|sQ 3 U<|sQ 4 U<|sQ 5 U<|sQ 6 U<|sQ 7 U<|sQ 8 U<|sZ 9 U (.bool false)<|sZ 10 U (.bool false) ?_
     refine sI<|Sy.ret ?_
     exact rV (.bool false) rfl
    ·obtain rfl:1=N0:=hN0_.symm
     obtain ⟨bV,hbV⟩:=xE (vfB (Av (dec ax ay ai)) 1 (λ_=>n) (sjX ax ay ai X Y I) (sjY ax ay ai X Y I) (sjI ax ay ai X Y I) s0 d0 1 (λ_=>n))
     refine sD 2 U (pv ax ay ai) (qL 0 g0 0 9 48 48 (pcs ax ay ai) rfl Ac)<|sZ 4 U (.slice A n c)<|sD 5 U (pv ax ay ai) (qL 0 g0 0 9 48 48 (pcs ax ay ai) rfl Ac)<|sD 7 U (AM d0 W1 1 c1) (Quiet.load 2 g2 0 33 31 31 (AO d0 W1 1 c1).toArray _ _ U kR kR DV U kR _ (DI hd0) (E5 hd0))<|Sy.callND 3 U kR kR 84 #[pv ax ay ai] kF (Cb (dec ax ay ai)) (λw _=>Ct w ax ay ai hax hay) (λv M hR0=>?_)
     obtain ⟨gt,rfl,rfl⟩:=hR0
     refine Sy.callND 6 U kR kR 85 #[.slice A n c,pv ax ay ai] kF (Fq fK n) (λw hw=>by rw [hfK]; exact GH w A n c X Y I hX hY ax ay ai hax hay hn64 (hlk.below hw.below)) (λv M hR0=>?_)
     obtain ⟨ga,gr,rfl,rfl⟩:=hR0
     refine sD 8 U (.bool bV) (qG 12 #[.slice (pA gt) 33 33,.slice (pA gr) 1 1,AM d0 W1 1 c1] (λw' hw=>by
      have h1:=(hw.blk gt 174 ((Av (dec ax ay ai)).map bv).toArray (by simp)).2
      have h2:=(hw.blk ga 176 (AH (upto n fK (pml 0 0 false)) 64).toArray (by simp)).2
      have h3:=(hw.blk gr 45 #[.slice (pA ga) n n] (by simp)).2
      have u:=hU1.2 w' _ hw (λb hb=>by simp only [List.mem_append]; exact .inl (.inl (.inr hb)))
      rw [hE] at u
      have q0:=K8 w' (pA gt) (Av (dec ax ay ai)) 33 33 (Ao _) dZ dZ dZ (Sh.Src.of_blk h1) (pA gr) 1 1 (λ_=>some ⟨ga,0,none⟩) (λ_=>n) (λ_=>n) (sjX ax ay ai X Y I) (sjY ax ay ai X Y I) (sjI ax ay ai X Y I) (λ_ _=>EN _) (λ_ _=>EM _) dZ (λ_=>hn) (DZ h3 U) (λi _=>M4 hf9 hn64 h2 (λj=>by rw [hfK]; rfl)) dZ d0 hd0 W1 1 c1 sa1 (λ_=>n) sc1 s0 (λi k=>by rw [hs0_]; exact T9 _ _) dZ (λ_ _=>hn) u.1 u.2 (ht.below hw.below ht.lt)
      rw [hbV]
      exact q0))<|sZ 9 U (.bool bV)<|sZ 10 U (.bool bV) ?_
     refine sI<|Sy.ret ?_
     rw [hs0_,show d0=(m.drop 1).take 32 from hd0_,hE] at hbV
     rw [← hbV]
     exact rV (.bool bV) rfl
   ·refine sG<|sT<|sC ?_
    refine sP (.bool false)<|sG<|Sy.ret<|Sy.then_ret ?_
    exact rV (.bool false) rfl
  ·refine sN<|sN<|sN<|sN<|sN<|sN<|sN<|sP (.bool true) ?_
   refine sG<|sT<|sC<|sP (.bool false)<|sG<|Sy.ret<|Sy.then_ret ?_
   exact rV (.bool false) rfl
end Cu
end
section
namespace Cu
open Go.RowKit Sy
theorem M6 {s s':Nat→Nat} {bm:List UInt8} {i K:Nat} {X Y:Nat→Nat} {I:Nat→Bool} {x:List UInt8} (h:∀ j,j<K→s j=s' j):∀ k,k≤K→alX s bm i 0 X Y I x k=alX s' bm i 0 X Y I x k
 | 0,_=>rfl
 | k+1,hk=>by rw [DF,DF,M6 h k om,h k om]
section
variable {s s':Nat→Nat→Nat} {bm:List UInt8} {X Y:Nat→Nat→Nat} {I:Nat→Nat→Bool} {d:List UInt8} {N:Nat} {nk:Nat→Nat}
theorem GO (h:∀ i,i<N→∀ j,j<nk i→s i j=s' i j):∀ k,k≤N→Dj s bm X Y I d nk k=Dj s' bm X Y I d nk k
 | 0,_=>rfl
 | k+1,hk=>by
  show Dj s bm X Y I d nk k++_=Dj s' bm X Y I d nk k++_
  rw [GO h k om,M6 (h k om) _ (Nat.le_refl _)]
theorem OE (h:∀ i,i<N→∀ j,j<nk i→s i j=s' i j) (hc:chB s bm X Y I d N N nk nk=true):chB s' bm X Y I d N N nk nk=true:=by
 unfold chB at hc
 rw [Bool.and_eq_true,Bool.and_eq_true] at hc
 refine Jf U (λi hi=>?_) (by rw [← GO h N (Nat.le_refl _)]; exact of_decide_eq_true hc.2.2)
 have q:=List.all_eq_true.1 hc.2.1 i (List.mem_range.2 hi)
 unfold EL at q ⊢
 rw [Bool.and_eq_true] at q ⊢
 refine ⟨q.1,List.all_eq_true.2 λj hj=>?_⟩
 have:=List.all_eq_true.1 q.2 j hj
 rwa [← h i hi j (List.mem_range.1 hj)]
end
section
variable {sd:List UInt8} {ax ay:Nat} {ai:Bool} {X Y:Nat→Nat} {I:Nat→Bool} {n:Nat} {z:Int} {kx:Nat}
theorem OW (h:n≤64):((sjL sd ax ay ai X Y I n z kx).getD 0 0).toNat=n:=by
 show (UInt8.ofNat n).toNat=n
 rw [UInt8.toNat_ofNat']
 omega
theorem OV:(sjL sd ax ay ai X Y I n z kx).length=33+32*n:=by
 unfold sjL
 rw [List.length_cons,List.length_append,D9]
 have e:BA (λ_=>n) 1=n:=Nat.zero_add n
 rw [e,show (sjD sd ax ay ai X Y I n z).length=32 from D6 _]
 omega
theorem QQ (ha:EJ n=true) (hf:sjF ax ay ai X Y I n z kx=true):sjB ax ay ai X Y I n (sjL sd ax ay ai X Y I n z kx)=true:=by
 have hn:=alw_iff.1 ha
 have hd:(sjD sd ax ay ai X Y I n z).length=32:=D6 _
 have hdec:=RO (s:=sjS sd ax ay ai X Y I n z kx) (sn:=λ_=>n) (N:=1) hd dZ dZ (λ_ _=>hn)
 have hl:(sjL sd ax ay ai X Y I n z kx).drop 1=sjD sd ax ay ai X Y I n z++CD (sjS sd ax ay ai X Y I n z kx) (λ_=>n) 1:=rfl
 have hlen:=OV (sd:=sd) (ax:=ax) (ay:=ay) (ai:=ai) (X:=X) (Y:=Y) (I:=I) (n:=n) (z:=z) (kx:=kx)
 have hft:=F9 (show true=Dw (λ_=>z) (λ_=>kx) (λ_=>n) (sjX ax ay ai X Y I) (sjY ax ay ai X Y I) (sjI ax ay ai X Y I) 1 1 from hf.symm)
 have hch:chB (sjS sd ax ay ai X Y I n z kx) (sjM ax ay ai X Y I n) (sjX ax ay ai X Y I) (sjY ax ay ai X Y I) (sjI ax ay ai X Y I) (sjD sd ax ay ai X Y I n z) 1 1 (λ_=>n) (λ_=>n)=true:=Po (at_:=λ_=>z.toNat) (sx:=λ_=>kx) (λ_ _=>rfl) (λi hi=>⟨(hft.2 i hi).2.1,(hft.2 i hi).2.2⟩)
 have hch2:=OE (s':=nmD ((sjL sd ax ay ai X Y I n z kx).drop 1) λ_=>n) (λi hi j hj=>by rw [hl,PU hd hi hj]; exact (MO _ _).symm) hch
 unfold sjB sjV
 rw [ha,decide_eq_false (by omega:¬ (sjL sd ax ay ai X Y I n z kx).length=0),OW hn.2,decide_eq_false (by simp:¬ n≠n),hl,hdec,List.take_left' hd]
 unfold vfB
 rw [G2 ax ay ai X Y I ha]
 rw [hl] at hch2
 show (!false && (!false && (true && (true && _))))=true
 simp only [Bool.not_false,Bool.true_and]
 exact hch2
end
theorem Gh {sd:List UInt8} {us:List Value} (h:sd.length=32) (k n:Nat) {v:Value} (hv:Value.agg ((us.drop k).take n).toArray=v):Value.agg (((csl sd us).toArray.toList.drop (32+k)).take n).toArray=v:=by
 rw [← hv]
 show Value.agg (((csl sd us).drop (32+k)).take n).toArray=_
 unfold csl
 rw [← List.drop_drop,List.drop_left' (by rw [List.length_map,h])]
theorem Gg {sd:List UInt8} {us:List Value} (h:sd.length=32) (k n:Nat) (hk:k+n≤us.length):32+k+n≤(csl sd us).toArray.size:=by
 rw [List.size_toArray]
 unfold csl
 rw [List.length_append,List.length_map,h]
 omega
theorem Ns {x y:Nat} (h:dec x y false≠none∨True):BT x y false x y false=none:=by
 unfold BT
 exact Ec.add_neg _
theorem M9:sjF gx.val gy.val false (λ_=>gx.val) (λ_=>gy.val) (λ_=>false) 1 0 0=true:=by
 unfold sjF
 refine Hv U λj hj=>?_
 obtain rfl:j=0:=om
 have q:=Hu (At:=λ_=>(0:Int)) (sx:=λ_=>0) (n:=λ_=>1) (X:=sjX gx.val gy.val false (λ_=>gx.val) (λ_=>gy.val) (λ_=>false)) (Y:=sjY gx.val gy.val false (λ_=>gx.val) (λ_=>gy.val) (λ_=>false)) (I:=sjI gx.val gy.val false (λ_=>gx.val) (λ_=>gy.val) (λ_=>false)) (k:=0) (q:=0) (by show ¬ (0:Int)<0; decide) (by show ¬ (0:Int) ≥ ((1:Nat):Int); decide) rfl
 rw [q]
 show CU 0 (pX (BT gx.val gy.val false gx.val gy.val false)) (pY (BT gx.val gy.val false gx.val gy.val false)) (pI (BT gx.val gy.val false gx.val gy.val false))=true
 rw [Ns (.inr trivial)]
 unfold CU
 rw [show evP 0=none from rfl]
 exact LF _ _ _
theorem Rh (w:World) (ht:Sh.TabAt w 1):Calls Tryz.prog 33 #[] w (Gets w (.bool true)):=by
 refine Sy.enter (args:=[]) Tryz.func33 U kL<|sC<|sP (.bool false)<|sA<|sS (pv gx.val gy.val false) (qF 16 #[] (Gk))<|Sy.make kR 48 (pcs gx.val gy.val false) (λg=>.slice (pA g) 1 1) kF (λg0=>?_)
 refine sP (.slice (pA g0) 1 1)<|sA<|sP (.agg ((List.replicate 32 (0:UInt8)).map bv).toArray)<|sP (.slice (pA g0) 1 1)<|sP (.slice (pA g0) 1 1)<|sP (pT g0 0)<|sS (pv gx.val gy.val false) (qL 0 g0 0 9 48 48 (pcs gx.val gy.val false) rfl Ac)<|sP (fv 0)<|Sy.callN kR 31 #[.agg ((List.replicate 32 (0:UInt8)).map bv).toArray,.slice (pA g0) 1 1,pv gx.val gy.val false,.int .i64 0,fv 0] kF _ (λw' hw=>GK w' (List.replicate 32 0) List.length_replicate (pA g0) 1 1 (λ_=>gx.val) (λ_=>gy.val) (λ_=>false) (λ_=>lt4 _) (λ_=>lt4 _) dZ (DZ (hw.get (i:=0) rfl) rfl) gx.val gy.val false (lt4 _) (lt4 _) 0 0 dZ (ht.below hw.below ht.lt)) (λv M hR0=>?_)
 rcases hR0 with ⟨h,_⟩ | ⟨_,h,_⟩ | ⟨_,_,y,rfl,rfl,hy⟩
 ·cases h
 ·rw [M9] at h; cases h
 obtain ⟨l,hl⟩:=xE (sjL (List.replicate 32 0) gx.val gy.val false (λ_=>gx.val) (λ_=>gy.val) (λ_=>false) 1 0 0)
 have hlen:l.length=65:=by rw [hl]; exact OV
 have hback:sjB gx.val gy.val false (λ_=>gx.val) (λ_=>gy.val) (λ_=>false) 1 l=true:=by rw [hl]; exact QQ U M9
 rw [← hl] at hy
 obtain ⟨A3,c3,hv3,hl3,hc3,hs3⟩:=F2 hy
 refine sP (.tuple #[y.v,.int .i64 0])<|sP y.v<|sP (.int .i64 0)<|sP y.v<|sP (.int .i64 0)<|sA<|sP (.int .i64 0)<|sP (.bool true)<|sP (.bool true)<|sP y.v<|sS (iZ 65) (Quiet.lenR hy (by rw [Am]; exact hlen) _ Ci U kR)<|sP (.bool true)<|sP (.bool true)<|sP (.bool true) <|
  sP (.slice (pA g0) 1 1)<|sP (.slice (pA g0) 1 1)<|sP (pT g0 0)<|sS (pv gx.val gy.val false) (qL 0 g0 0 9 48 48 (pcs gx.val gy.val false) rfl Ac)<|sP y.v <|
  sS (.bool true) (qG 34 #[.slice (pA g0) 1 1,pv gx.val gy.val false,y.v] (λw' hw=>by
   have q:=I4 w' (pA g0) 1 1 (λ_=>gx.val) (λ_=>gy.val) (λ_=>false) (λ_=>lt4 _) (λ_=>lt4 _) dZ gx.val gy.val false (lt4 _) (lt4 _) A3 l l.length c3 U om hl3 (Nat.le_trans hc3 dZ) (hs3 hw (λb hb=>List.mem_append.2 (.inr hb))) (λ_=>DZ (hw.get (i:=0) rfl) rfl) (ht.below hw.below ht.lt)
   rw [hback] at q
   rw [hv3]
   exact q))<|sP (.bool true)<|sP (.bool true) ?_
 refine sG<|Sy.ret ?_
 exact rV (.bool true) rfl
def c10 (A:Option Addr) (n c ax ay:Nat) (ai:Bool) (z:Int) (kx:Nat):List Value:=[.slice A n c]++(pml ax ay ai++([.int .i64 z]++fws kx))
theorem Gi {A:Option Addr} {n c ax ay:Nat} {ai:Bool} {z:Int} {kx:Nat}:(c10 A n c ax ay ai z kx).length=15:=rfl
end Cu
end
section
namespace Cu
open Go.ChangeShapes Go.WideShapes Go.ChangeAt Go.RowKit Sy Go.Deep
theorem I9 {H:Type} {enc:TypeId×Value→H} {P:Program} {w:World} {base:Nat} {sp:Nat→Bool} {held:Bool} {t:TypeId} {f0 f1 f2 f3 f4:Field} {fuel:Nat} {cs:List Value} {x:DataW H×List MemPlace} (ht:P.underlying t=some (.struct #[f0,f1,f2,f3,f4])) (h:DataW.trod enc P w base sp held fuel t cs=some x) :
  ∃ y0 y1 y2 y3 y4 n,DataW.trod enc P w base sp held n f0.type ((cs.drop f0.offset).take (P.cellsOf f0.type))=some y0 ∧
   DataW.trod enc P w base sp held n f1.type ((cs.drop f1.offset).take (P.cellsOf f1.type))=some y1∧DataW.trod enc P w base sp held n f2.type ((cs.drop f2.offset).take (P.cellsOf f2.type))=some y2 ∧
   DataW.trod enc P w base sp held n f3.type ((cs.drop f3.offset).take (P.cellsOf f3.type))=some y3∧DataW.trod enc P w base sp held n f4.type ((cs.drop f4.offset).take (P.cellsOf f4.type))=some y4:=by
 obtain ⟨xs,n,_,rfl,hl,hlen,hf⟩:=DataW.trod_struct ht h
 match xs,hlen with
 | [y0,y1,y2,y3,y4],_=>exact ⟨y0,y1,y2,y3,y4,n,by simpa using hf 0 f0 U,by simpa using hf 1 f1 U,by simpa using hf 2 f2 U,by simpa using hf 3 f3 U,by simpa using hf 4 f4 U⟩
theorem SC {α:Type} {cs:List α} {a b c d e:Nat} (h:cs.length=a+(b+(c+(d+e)))):cs=(cs.drop 0).take a++((cs.drop a).take b++((cs.drop (a+b)).take c++((cs.drop (a+b+c)).take d++(cs.drop (a+b+c+d)).take e))):=by
 have h2:=SD (cs:=cs.drop a) (a:=b) (b:=c) (c:=d) (d:=e) (by rw [List.length_drop]; omega)
 rw [List.drop_zero,List.drop_drop,List.drop_drop,List.drop_drop, ← Nat.add_assoc, ← Nat.add_assoc, ← Nat.add_assoc] at h2
 rw [← h2,List.drop_zero,List.take_append_drop]
theorem open_case10 {H:Type} {enc:TypeId×Value→H} {W:World} {r:Reach} {b0:Nat} {v:Value} {d:DataW H} {ps:List MemPlace}
  (hval:Value.okWide Tryz.prog W r b0 72 v) (h:DataW.Trod enc Tryz.prog W 0 (λ_=>true) true 72 v d ps) :
  ∃ (sd:List UInt8) (A:Option Addr) (n c:Nat) (X Y:Nat→Nat) (I:Nat→Bool) (ax ay:Nat) (ai:Bool) (z:Int) (kx:Nat),
   v=csv sd (c10 A n c ax ay ai z kx)∧sd.length=32∧(∀ k,X k<K4)∧(∀ k,Y k<K4)∧n≤9223372036854775807∧Lst W 9 A n (λk=>pml (X k) (Y k) (I k))∧ax<K4∧ay<K4∧kx<K4:=by
 have ht:=T5
 obtain ⟨⟨cs⟩,rfl,hsz⟩:=okWide_struct ht hval
 rw [show Tryz.prog.cellsOf 72=47 by kernel_rfl] at hsz
 have hl:cs.length=32+(1+(9+(1+4))):=by simpa using hsz
 obtain ⟨fuel,hf⟩:=h
 obtain ⟨y0,y1,y2,y3,y4,n,g0,g1,g2,g3,g4⟩:=I9 ht (by simpa [Value.cells] using hf)
 have s:=SC hl
 have l2:((cs.drop (32+1)).take 9).length=9:=by rw [List.length_take,List.length_drop]; omega
 have l4:((cs.drop (32+1+9+1)).take 4).length=4:=by rw [List.length_take,List.length_drop]; omega
 obtain ⟨sd,hsd,e0⟩:=LX (P:=Tryz.prog) DA uy5 kZ kZ g0
 obtain ⟨A,m,c,T,e1,hm,hc,hT,_,hls,_⟩:=LW (P:=Tryz.prog) Pr.cells Pr.ok (λ_=>0) 9 dZ (λ_=>rfl) ⟨L_,L_⟩ rfl B1 kZ
  (λfuel cs x hl hf=>by
   obtain ⟨y,h1,h2⟩:=KD fuel cs x hl hf
   exact ⟨y,h1,h2,Nat.zero_le _⟩) g1
 obtain ⟨⟨ax,ay,ai⟩,⟨hax,hay⟩,e2⟩:=KD n _ _ l2 g2
 obtain ⟨z,e3,_⟩:=Qn (P:=Tryz.prog) uy3 g3
 obtain ⟨k,hk,e4⟩:=Lq l4 (P:=Tryz.prog) Ah Bw kZ g4
 refine ⟨sd,A,m,c,λj=>(T j).x,λj=>(T j).y,λj=>(T j).i,ax,ay,ai,z,k,?_,hsd,λj=>(hT j).1,λj=>(hT j).2,Nat.le_trans hm hc,hls,hax,hay,hk⟩
 have q0:(cs.drop 0).take 32=sd.map bv:=e0
 have q1:(cs.drop 32).take 1=[.slice A m c]:=e1
 have q2:(cs.drop (32+1)).take 9=pml ax ay ai:=e2
 have q3:(cs.drop (32+1+9)).take 1=[.int .i64 z]:=e3
 have q4:(cs.drop (32+1+9+1)).take 4=fws k:=e4
 rw [s,q0,q1,q2,q3,q4]
 rfl
end Cu
end
section
namespace Cu
open Go.RowKit Sy
noncomputable def Tk:TypeInfo:=(Tryz.prog.info? 48).getD default
theorem RF:Tryz.prog.info? 48=some Tk:=kZ
theorem Qg (x y:Nat) (i:Bool):∀ u∈pml x y i,u.oneCell'=true:=Gl _ (by cases i <;> kernel_rfl)
def RgL (f:Nat→List Value) (n:Nat) (v:Value) (M:AB):Prop:=∃ (r:Slc) (g:Nat),v=.slice (pA g) 1 1∧M=r.bl++[(g,45,#[r.v])]∧r.Is 48 9 ((List.range n).map f)
theorem Oj (w:World) (A:Option Addr) (n c:Nat) (X Y:Nat→Nat) (I:Nat→Bool) (hX:∀ k,X k<K4) (hY:∀ k,Y k<K4) (ax ay:Nat) (ai:Bool) (hax:ax<K4) (hay:ay<K4) (hn:n≤64) (hlk:Lst w 9 A n (λk=>pml (X k) (Y k) (I k))) :
  Calls Tryz.prog 87 #[.slice A n c,pv ax ay ai] w (GetsN w (RgL (λj=>pml (pX (BT ax ay ai (X j) (Y j) (I j))) (pY (BT ax ay ai (X j) (Y j) (I j))) (pI (BT ax ay ai (X j) (Y j) (I j)))) n)):=by
 obtain ⟨gK,oK,hT⟩:=hlk
 obtain ⟨fK,hfK⟩:∃ f:Nat→List Value,f=(λj=>pml (pX (BT ax ay ai (X j) (Y j) (I j))) (pY (BT ax ay ai (X j) (Y j) (I j))) (pI (BT ax ay ai (X j) (Y j) (I j)))):=⟨_,rfl⟩
 rw [← hfK]
 refine Sy.enter (args:=[.slice A n c,pv ax ay ai]) Tryz.func87 U kL<|sC<|sM 48 (pcs ax ay ai) (λg0=>?_)
 refine sP (.slice none 0 0)<|sA<|sP (.slice none 0 0)<|sG<|Sy.seq<|sC<|sP (.int .i64 0)<|sG<|Sy.block<|Sy.loopT (Y:=Slc) n (λk1 y1=>[(0,.slice A n c),(3,ptr g0),(5,y1.v),(6,iZ k1)]) (λk1 y1=>[(g0,48,pcs ax ay ai)]++(y1.bl++[])) (λk1 y1=>y1.Is 48 9 ((List.range k1).map fK)) nilS (Slc.Is.nil _ _) ac4 (λw hw=>hw) (λk1 y1 hk1 hh1=>?_)
 refine Sy.seq<|sC ?_
 obtain ⟨b1,hb1⟩:=xE (decide (k1<n))
 refine sP (iZ k1)<|sP (.slice A n c)<|sP (iZ n)<|sS (.bool b1) (qls U U U hb1)<|sG ?_
 cases b1
 ·have lb1:=dN hb1
  obtain rfl:n=k1:=om
  obtain ⟨A',c',hv,hc1,hc2,hl⟩:=hh1.out
  rw [List.length_map,List.length_range] at hv hc1 hl
  obtain ⟨yv,yb⟩:=y1
  obtain rfl:yv=_:=hv
  refine sU<|Sy.exit<|Sy.then_exit<|Sy.then_exit<|Sy.in_exit<|sB<|sP (.slice A' n c')<|Sy.make kR 45 #[.slice A' n c'] (λg=>.slice (pA g) 1 1) kF (λg2=>?_)
  refine sP (.slice (pA g2) 1 1)<|sG<|Sy.ret ?_
  exact Do (yb++[(g2,45,#[.slice A' n c'])]) U (v:=.slice (pA g2) 1 1) (.inl (show _=_ by kernel_rfl)) (λw hw=>St.less hw (by simp)) ⟨⟨.slice A' n c',yb⟩,g2,rfl,rfl,hh1⟩
 ·have lb1:=dY hb1
  obtain ⟨Q,hQ⟩:=xE (Ec.neg (dec (X k1) (Y k1) (I k1)))
  have hQo:Ec.On Q:=by rw [hQ]; exact Ec.On.neg (C9 _ _ _)
  obtain ⟨S,hS⟩:=xE ((BT ax ay ai (X k1) (Y k1) (I k1)))
  have hSe:Ec.add Ad (dec ax ay ai) (dec (pX Q) (pY Q) (pI Q))=S:=by rw [Be hQo,hQ,hS]; rfl
  refine sT<|Sy.skip<|Sy.then_<|Sy.seq<|Sy.block<|Sy.regionD (λj=>j == 9) kR<|sZ 0 U y1.v<|Sy.stepDB 1 [7,8,9,10] rfl kR (λ_ _ _ _ h=>h) kR (pv ax ay ai) (qL 0 g0 0 9 48 48 (pcs ax ay ai) rfl Ac)<|Sy.stepDB 2 [4,5,6,7,8,9,10] rfl kR (λ_ _ _ _ h=>h) kR (.slice A n c) (Quiet.pure kF)<|Sy.stepDB 3 [4,5,6,7,8,9,10] rfl kR (λ_ _ _ _ h=>h) kR (iZ k1) (Quiet.pure kF)<|Sy.stepDB 4 [5,6,7,8,9,10] rfl kR (λ_ _ _ _ h=>h) kR (.pointer (some ⟨gK,oK+k1*9,none⟩)) (Quiet.pure (AJ 45 _ _ _ A gK oK n c k1 9 .i64 (hT om).1 U U U B1 kF om))<|Sy.stepDB 5 [6,7,8,9,10] rfl kR (λ_ _ _ _ h=>h) kR (pv (X k1) (Y k1) (I k1)) (Quiet.there gK (oK+k1*9) 9 48 (pml (X k1) (Y k1) (I k1)) _ _ U kR (hT om).2.1 ((hT om).2.2 k1 om) Ac U kR U _ U)<|Sy.stepDB 6 [7,8,9,10] rfl kR (λ_ _ _ _ h=>h) kR (pv (pX Q) (pY Q) (pI Q)) (qF 132 #[pv (X k1) (Y k1) (I k1)] (λw=>by rw [← BU,hQ]; exact Nj w _ _ _ (hX _) (hY _)))<|sD 7 U (pv (pX S) (pY S) (pI S)) (qF 68 #[pv ax ay ai,pv (pX Q) (pY Q) (pI Q)] (λw=>by have q:=I0 w ax ay ai (pX Q) (pY Q) (pI Q) hax hay (EN _) (EM _); rw [hSe,BU] at q; exact q))<|Sy.makeD 8 U kR kR 48 (pcs (pX S) (pY S) (pI S)) (λg=>.slice (pA g) 1 1) kF (λg2=>?_)
  refine Sy.movTD<|Sy.soleD 9 U (λQ2 hq2=>?_)
  refine Sy.appendR kR 45 48 _ _ 9 72 B1 RF U U U U dZ _ _ U hh1 kR (pml (pX S) (pY S) (pI S)) U (Qg _ _ _) 1 g2 48 kR kR (by rw [List.length_map,List.length_range]; omega) (by rw [List.length_map,List.length_range]; simp only [maxLen]; omega) (λr1 hr1=>?_)
  refine hq2 _ _<|Sy.anyOf [10] kR dZ (Sy.each1 ?_)
  refine Sy.oneQuiet U kR r1.v (Quiet.pure kF)<|sE<|Sy.in_<|Sy.then_<|Sy.region<|sP (iZ k1)<|sS (iZ (k1+1)) (qad U U U)<|sP (iZ (k1+1))<|Sy.nil ?_
  exact Sy.againT r1 om (by rw [List.range_succ,List.map_append,List.map_singleton,show fK k1=pml (pX S) (pY S) (pI S) from by rw [hfK,hS]]; exact hr1) ac4 (λw hw=>St.pickX (pre:=[(g0,48,pcs ax ay ai),(g2,48,pcs (pX S) (pY S) (pI S))]) (M:=[(g0,48,pcs ax ay ai)]) (N:=[]) [0] dZ kR hw)
end Cu
end
section
section
open Go.RowKit Go.Lib
end
end
section
namespace Cu
open Go.RowKit Sy
end Cu
end
section
namespace Cu
open Go.RowKit Sy
theorem Pz {n:Nat} (h:n<1∨n>64):EJ n=false:=by
 unfold EJ
 rcases h with h | h
 ·rw [decide_eq_false (by omega:¬ 1≤n)]; rfl
 ·rw [decide_eq_false (by omega:¬ n≤64),Bool.and_false]
end Cu
end
section
namespace Cu
open Go.RowKit Sy
def RgO (f:Nat→List Value) (n:Nat) (v:Value) (M:AB):Prop:=∃ (ga:Nat) (sp:List Value) (ca gr:Nat),v=.slice (pA gr) 1 1∧M=[(ga,48,(AH f n++sp).toArray),(gr,45,#[.slice (pA ga) n ca])]
theorem RgL.opened {f:Nat→List Value} {n:Nat} {v:Value} {M:AB} (hn:1≤n) (h:RgL f n v M):RgO f n v M:=by
 obtain ⟨r,g,h1,h2,h3⟩:=h
 obtain ⟨ga,ca,sp,e1,e2,_⟩:=h3.open hn
 exact ⟨ga,sp,ca,g,h1,by rw [h2,e1,e2]; rfl⟩
def P8 (ax ay:Nat) (ai:Bool):Value→AB→Prop:=(λvq Mq=>∃ (g:Nat) (sp:List Value) (cap:Nat),vq=.slice (pA g) 33 cap∧(33≤cap∧cap≤9223372036854775807)∧Mq=[(g,5,((Av (dec ax ay ai)).map bv++sp).toArray)])
abbrev zT (ax ay:Nat) (ai:Bool) (g:Nat) (sp:List Value):Nat×TypeId×Array Value:=(g,5,((Av (dec ax ay ai)).map bv++sp).toArray)
abbrev zA (f:Nat→List Value) (n g:Nat) (sp:List Value):Nat×TypeId×Array Value:=(g,48,(AH f n++sp).toArray)
abbrev zR (n ga g ca:Nat):Nat×TypeId×Array Value:=(g,45,#[.slice (pA ga) n ca])
def RdU (w0:Base) (W:Option Addr) (N:Nat) (nk:Nat→Nat) (s:Nat→Nat→Nat) (sa:Nat→Option Addr) (sc:Nat→Nat) (M:AB):Prop:=∀ (w:World) (L:AB),St w0 w L→(∀ b∈M,b∈L)→Lst w 1 W N (λi=>[.slice (sa i) (nk i) (sc i)])∧∀ i,i<N→Lst w 4 (sa i) (nk i) (λk=>fws (s i k))
theorem NY (w:World) (sd:List UInt8) (hsd:sd.length=32) (A:Option Addr) (n c:Nat) (X Y:Nat→Nat) (I:Nat→Bool) (hX:∀ k,X k<K4) (hY:∀ k,Y k<K4) (hn:n≤9223372036854775807) (hlk:Lst w 9 A n (λk=>pml (X k) (Y k) (I k))) (ax ay:Nat) (ai:Bool) (hax:ax<K4) (hay:ay<K4) (z:Int) (kx:Nat) (hkx:kx<K4) (htr:Sh.TabAt w 0) :
  Calls Tryz.prog 32 #[.agg (sd.map bv).toArray,.slice A n c,pv ax ay ai,.int .i64 z,fv kx] w (GetsN w (PrvR (EJ n) (sjF ax ay ai X Y I n z kx) (sjL sd ax ay ai X Y I n z kx))):=by
 refine Sy.enter (args:=[.agg (sd.map bv).toArray,.slice A n c,pv ax ay ai,.int .i64 z,fv kx]) Tryz.func32 U kL<|sC<|sM 23 (sd.map bv).toArray (λg0=>?_)
 refine sM 48 (pcs ax ay ai) (λg1=>?_)
 refine sM 42 (fcs kx) (λg2=>?_)
 refine sP (.slice none 0 0)<|sP (.int .i64 0)<|sG<|Sy.seq<|sC ?_
 obtain ⟨b0,hb0⟩:=xE (decide (n<1))
 refine sP (.slice A n c)<|sP (iZ n)<|sS (.bool b0) (qls U U U hb0)<|sP (.bool b0) ?_
 cases b0
 ·have lb0:=dN hb0
  obtain ⟨b1,hb1⟩:=xE (decide (n>64))
  refine sP (.slice A n c)<|sP (iZ n)<|sS (.bool b1) (qgt U U U hb1)<|sP (.bool b1) ?_
  cases b1
  ·have lb1:=dN hb1
   have hn64:n≤64:=om
   have hn1:1≤n:=om
   have hn:n≤4611686018427387904:=Nat.le_trans hn64 dZ
   have ha:EJ n=true:=alw_iff.2 ⟨hn1,hn64⟩
   rw [ha]
   obtain ⟨bf,hbf⟩:=xE (sjF ax ay ai X Y I n z kx)
   rw [← hbf]
   obtain ⟨fK,hfK⟩:∃ f:Nat→List Value,f=(λj=>pml (pX (BT ax ay ai (X j) (Y j) (I j))) (pY (BT ax ay ai (X j) (Y j) (I j))) (pI (BT ax ay ai (X j) (Y j) (I j)))):=⟨_,rfl⟩
   have hf9:∀ j,(fK j).length=9:=λj=>by rw [hfK]; rfl
   obtain ⟨dS,hdS⟩:=xE (sjD sd ax ay ai X Y I n z)
   obtain ⟨zS,hzS⟩:=xE (sjS sd ax ay ai X Y I n z kx)
   have hdSl:dS.length=32:=by rw [hdS]; exact D6 _
   have hzS4:∀ i k,zS i k<K4:=λi k=>by rw [hzS]; exact Oc _ _
   obtain ⟨dU,hdU⟩:=xE (uD true bf dS)
   obtain ⟨NU,hNU⟩:=xE (uN true bf 1)
   obtain ⟨en,hen⟩:=xE (uE true bf)
   have hdUl:dU.length=32:=by rw [hdU]; exact OK hdSl
   have hc5:∀ {L:AB} w',St (Base.of w) w' L→Calls Tryz.prog 87 #[.slice A n c,pv ax ay ai] w' (GetsN w' (RgO fK n)):=λw' hw=>by rw [hfK]; exact (Oj w' A n c X Y I hX hY ax ay ai hax hay hn64 (hlk.below hw.below)).mono (λe w' ⟨v,M,q1,q2,q3⟩=>⟨v,M,q1,RgL.opened hn1 q2,q3⟩)
   have hsign:∀ w',(∀ {L},St (Base.of w) w' L→∀ gt ga gr gs (spt:List Value) (ct:Nat) (spa:List Value) (ca:Nat),(33≤ct∧ct≤9223372036854775807)→Blk w' gt 5 ((Av (dec ax ay ai)).map bv++spt).toArray→Blk w' gr 45 #[.slice (pA ga) n ca]→Lst w' 9 (pA ga) n fK→Blk w' gs 44 (BV z kx).toArray →
     Calls Tryz.prog 70 #[.agg (sd.map bv).toArray,.slice (pA gt) 33 ct,.slice (pA gr) 1 1,.slice (pA gs) 1 1] w' (GetsN w' (SgU (Base.of w) dU NU (λ_=>n) zS en))):=λw' {L} hw gt ga gr gs spt ct spa ca hct h1 h3 h2 h4=>by
    have q:=NJ w' sd hsd (pA gt) (Av (dec ax ay ai)) 33 ct (Ao _) dZ hct.1 hct.2 (DX h1) (pA gr) 1 1 (λ_=>some ⟨ga,0,none⟩) (λ_=>n) (λ_=>ca) (sjX ax ay ai X Y I) (sjY ax ay ai X Y I) (sjI ax ay ai X Y I) (λ_ _=>EN _) (λ_ _=>EM _) dZ (λ_=>hn) (DZ h3 U) (λi _=>by rw [hfK] at h2; exact h2) (pA gs) 1 1 (λ_=>z) (λ_=>kx) (λ_=>hkx) dZ (DZ h4 U) (htr.below hw.below htr.lt)
    rw [G2 ax ay ai X Y I ha] at q
    rw [hdU,hNU,hen,hzS,hdS,hbf]
    exact Calls.mono q (λe w' ⟨v,M,q1,q2,q3⟩=>⟨v,M,q1,SgnR8.uni q2,q3⟩)
   refine sG<|sU<|Sy.skip<|sR (λj=>j == 15) ?_
   refine sD 0 U (.agg (sd.map bv).toArray) (Quiet.load 0 g0 0 32 23 23 (sd.map bv).toArray _ _ U kR kR DA U kR _ (BF sd hsd) (Bh sd hsd))<|sD 1 U (pv ax ay ai) (qL 1 g1 0 9 48 48 (pcs ax ay ai) rfl Ac)<|sZ 3 U (.slice A n c)<|sD 4 U (pv ax ay ai) (qL 1 g1 0 9 48 48 (pcs ax ay ai) rfl Ac) <|
    sZ 6 U (.int .i64 z)<|sD 7 U (fv kx) (qL 2 g2 0 4 42 42 (fcs kx) rfl Ah)<|sZ 8 U (.agg (BV z kx).toArray) ?_
   refine Sy.joinG (T:=Nat×Option Addr×Nat×AB×AB) (λx=>[(1,.slice A n c),(12,ptr x.1),(35,AM dU x.2.1 NU x.2.2.1),(36,.int .i64 en)]) (λx=>[(g0,23,(sd.map bv).toArray),(g1,48,(pcs ax ay ai)),(g2,42,(fcs kx)),(x.1,31,zS33.toArray)]++(x.2.2.2.1++x.2.2.2.2)) (λx=>∃ sa sc,RdU (Base.of w) x.2.1 NU (λ_=>n) zS sa sc x.2.2.2.1) 2 #[true,true,true,true,true,true,true,true,true,true,true,true,true,true,true,false,false] (λx hx=>?_) (λfin=>?_)
   ·obtain ⟨g12,W1,c1,M1,ME⟩:=x
    obtain ⟨sa1,sc1,hU1⟩:=hx
    dsimp only
    refine sX 15 U 3 g12 31 zS33.toArray (AO dU W1 NU c1).toArray (Writes.row 31 (AO dU W1 NU c1) 33 _ _ U kR kR kR (Ag hdUl) (by rw [List.size_toArray,Ag List.length_replicate]) Bo)<|Sy.setTD<|Sy.anyOf [16] kZ dZ (Sy.each1 ?_)
    refine Sy.oneQuiet U kR (.int .i64 en) (Quiet.pure kF)<|sI<|Sy.seq<|sC ?_
    obtain ⟨b4,hb4⟩:=xE (decide (en≠0))
    refine sP (.int .i64 en)<|sS (.bool b4) (Quiet.pure (AV .neq _ _ _ .i64 _ _ _ U U U (De _ _ _ _ _ hb4.symm)))<|sG ?_
    cases b4
    ·have he0:en=0:=Decidable.of_not_not (of_decide_eq_false hb4.symm)
     have hbb:bf=true:=by
      rw [hen] at he0
      cases bf <;> first | rfl | cases he0
     subst hbb
     obtain rfl:1=NU:=hNU.symm
     obtain rfl:dU=dS:=hdU
     obtain ⟨l0,hl0⟩:=xE (dU++CD zS (λ_=>n) 1)
     have hll:l0.length≤2080:=by
      have e:BA (λ_=>n) 1=n:=Nat.zero_add n
      rw [hl0,List.length_append,hdUl,D9,e]
      omega
     refine sU<|Sy.skip<|sB<|sP (.slice A n c)<|sP (iZ n)<|sS (bv (UInt8.ofNat n)) (Quiet.pure (λw=>CF w _ _ _ n om U U))<|Sy.make kR 5 #[bv (UInt8.ofNat n)] (λg=>.slice (pA g) 1 1) kF (λg7=>?_)
     refine Sy.movT<|sP (.slice (pA g7) 1 1)<|sA<|sP (.slice (pA g7) 1 1)<|sS (AM dU W1 1 c1) (Quiet.load 3 g12 0 33 31 31 (AO dU W1 1 c1).toArray _ _ U kR kR DV U kR _ (DI hdUl) (E5 hdUl))<|Sy.callN kR 73 #[AM dU W1 1 c1] kF _ (λw hw=>by have u:=hU1 w _ hw (λb hb=>by simp only [List.mem_append]; exact .inr (.inl hb)); have q:=PX w dU hdUl W1 1 c1 sa1 (λ_=>n) sc1 zS hzS4 dZ (λ_ _=>hn) u.1 u.2 dZ (λ_=>om); rw [← hl0] at q; exact q) (λv M3 hR0=>?_)
     obtain ⟨y3,rfl,rfl,hy3⟩:=hR0
     obtain ⟨A3,c3,hv3,hl3,hc3,hs3⟩:=F2 hy3
     have hr7:Slc.Is ⟨.slice (pA g7) 1 1,[(g7,5,#[bv (UInt8.ofNat n)])]⟩ 5 1 (Aj [UInt8.ofNat n]):=Slc.Is.mk' (cs:=[bv (UInt8.ofNat n)]) (Bb _) (BE _) rfl U U (Nat.le_refl _) dZ
     refine Sy.permS (M:=[(g0,23,(sd.map bv).toArray),(g1,48,(pcs ax ay ai)),(g2,42,(fcs kx)),(g12,31,(AO dU W1 1 c1).toArray)]++([(g7,5,#[bv (UInt8.ofNat n)])]++((M1++ME)++(y3.bl++[])))) (by simp only [List.append_assoc,List.append_nil]; exact List.Perm.refl _)<|Sy.appendM kR 24 5 _ _ 1 1 Ci Dg U U U U dZ _ _ U (ys:=Aj l0) hr7 kR (Bb _) (BE _) A3 l0.length c3 (Am _) hl3 (by rw [← hv3]; kernel_rfl) (λr=>From.srcL (λw hw=>hs3 hw (λb hb=>by simp only [List.mem_append]; exact .inr (.inr (.inr (.inl hb)))))) (by rw [Am]; show (1+l0.length)*1≤_; omega) (by rw [Am]; show 1+l0.length≤_; simp only [maxLen]; omega) (λr hr=>?_)
     refine sP r.v<|sP (.int .i64 0)<|sG<|Sy.ret ?_
     have e1:sjL sd ax ay ai X Y I n z kx=UInt8.ofNat n::l0:=by unfold sjL; rw [← hdS, ← hzS,hl0]
     rw [e1]
     exact BD r.bl U (v:=r.v) (u:=.int .i64 0) (.inl (show _=_ by kernel_rfl)) (.inl (show _=_ by kernel_rfl)) (λw hw=>St.less hw ((List.sublist_append_left _ _).trans (List.sublist_append_right _ _))) (.inr (.inr ⟨rfl,rfl,r,rfl,rfl,hr⟩))
    ·have he1:=dY hb4
     have hbb:bf=false:=by
      rw [hen] at he1
      cases bf <;> first | rfl | exact absurd U he1
     subst hbb
     refine sT<|sC<|sP (.slice none 0 0)<|sP (.int .i64 101)<|sG<|Sy.ret<|Sy.then_ret ?_
     exact BD [] rfl (v:=.slice none 0 0) (u:=.int .i64 101) (.inl (show _=_ by kernel_rfl)) (.inl (show _=_ by kernel_rfl)) (λ_ hw=>hw.none) (.inr (.inl ⟨rfl,rfl,rfl,rfl⟩))
   ·refine Sy.anyOf [2,9,14] kZ dZ (Sy.each3 ?_ ?_ ?_)
    ·refine Sy.oneCallN U kZ 42 #[pv ax ay ai] kF (P8 ax ay ai) (λw _=>C8 w ax ay ai hax hay) (λv M hR0=>?_)
     obtain ⟨gt,spt,ct,rfl,hct,rfl⟩:=hR0
     refine Sy.anyOf [5,9,14] kZ dZ (Sy.each3 ?_ ?_ ?_)
     ·refine Sy.oneCallN U kZ 87 #[.slice A n c,pv ax ay ai] kF (RgO fK n) hc5 (λv M hR0=>?_)
      obtain ⟨ga,spa,ca,gr,rfl,rfl⟩:=hR0
      refine Sy.anyOf [9,14] kZ dZ (Sy.each2 ?_ ?_)
      ·refine Sy.oneMake U kZ 44 (BV z kx).toArray (λg=>.slice (pA g) 1 1) kF (λgs=>?_)
       refine Sy.anyOf [10,14] kZ dZ (Sy.each2 ?_ ?_)
       ·refine Sy.oneCallN U kZ 70 #[.agg (sd.map bv).toArray,.slice (pA gt) 33 ct,.slice (pA gr) 1 1,.slice (pA gs) 1 1] kF (SgU (Base.of w) dU NU (λ_=>n) zS en) (λw' hw=>hsign w' hw gt ga gr gs spt ct spa ca hct (hw.get (i:=3) rfl) (hw.get (i:=5) rfl) (BN (g:=ga) (e:=48) (sp:=spa) hf9 hw (by simp)) (hw.get (i:=6) rfl)) (λv M1 hR0=>?_)
        obtain ⟨W1,c1,sa1,sc1,rfl,hU1⟩:=hR0
        refine sZ 11 U (.tuple #[AM dU W1 NU c1,.int .i64 en])<|sZ 12 U (AM dU W1 NU c1)<|Sy.stepDA 13 U kR (λ_ _ _ _ h=>h) kR (.int .i64 en) kF<|Sy.makeD 14 U kR kR 31 zS33.toArray ptr kF (λg12=>?_)
        exact Bc fin (g12,W1,c1,M1,[zT ax ay ai gt spt,zA fK n ga spa,zR n ga gr ca,zX z kx gs]) ⟨sa1,sc1,hU1⟩ kR ac4 (Sy.flat_perm (ls:=[zB sd ax ay ai kx g0 g1 g2,[zT ax ay ai gt spt],[zA fK n ga spa],[zR n ga gr ca],[zX z kx gs],M1,[zW g12]]) (ms:=[zB sd ax ay ai kx g0 g1 g2,[zW g12],M1,[zT ax ay ai gt spt],[zA fK n ga spa],[zR n ga gr ca],[zX z kx gs]]) [0,6,5,1,2,3,4] kZ (by rfl) (by simp) (by simp))
       ·refine Sy.oneMake U kZ 31 zS33.toArray ptr kF (λg12=>?_)
        refine Sy.callND 10 U kR kR 70 #[.agg (sd.map bv).toArray,.slice (pA gt) 33 ct,.slice (pA gr) 1 1,.slice (pA gs) 1 1] kF (SgU (Base.of w) dU NU (λ_=>n) zS en) (λw' hw=>hsign w' hw gt ga gr gs spt ct spa ca hct (hw.get (i:=3) rfl) (hw.get (i:=5) rfl) (BN (g:=ga) (e:=48) (sp:=spa) hf9 hw (by simp)) (hw.get (i:=6) rfl)) (λv M1 hR0=>?_)
        obtain ⟨W1,c1,sa1,sc1,rfl,hU1⟩:=hR0
        refine sZ 11 U (.tuple #[AM dU W1 NU c1,.int .i64 en])<|sZ 12 U (AM dU W1 NU c1)<|Sy.stepDA 13 U kR (λ_ _ _ _ h=>h) kR (.int .i64 en) kF ?_
        exact Bc fin (g12,W1,c1,M1,[zT ax ay ai gt spt,zA fK n ga spa,zR n ga gr ca,zX z kx gs]) ⟨sa1,sc1,hU1⟩ kR ac4 (Sy.flat_perm (ls:=[zB sd ax ay ai kx g0 g1 g2,[zT ax ay ai gt spt],[zA fK n ga spa],[zR n ga gr ca],[zX z kx gs],[zW g12],M1]) (ms:=[zB sd ax ay ai kx g0 g1 g2,[zW g12],M1,[zT ax ay ai gt spt],[zA fK n ga spa],[zR n ga gr ca],[zX z kx gs]]) [0,5,6,1,2,3,4] kZ (by rfl) (by simp) (by simp))
      ·refine Sy.oneMake U kZ 31 zS33.toArray ptr kF (λg12=>?_)
       refine Sy.makeD 9 U kR kR 44 (BV z kx).toArray (λg=>.slice (pA g) 1 1) kF (λgs=>?_)
       refine Sy.callND 10 U kR kR 70 #[.agg (sd.map bv).toArray,.slice (pA gt) 33 ct,.slice (pA gr) 1 1,.slice (pA gs) 1 1] kF (SgU (Base.of w) dU NU (λ_=>n) zS en) (λw' hw=>hsign w' hw gt ga gr gs spt ct spa ca hct (hw.get (i:=3) rfl) (hw.get (i:=5) rfl) (BN (g:=ga) (e:=48) (sp:=spa) hf9 hw (by simp)) (hw.get (i:=7) rfl)) (λv M1 hR0=>?_)
       obtain ⟨W1,c1,sa1,sc1,rfl,hU1⟩:=hR0
       refine sZ 11 U (.tuple #[AM dU W1 NU c1,.int .i64 en])<|sZ 12 U (AM dU W1 NU c1)<|Sy.stepDA 13 U kR (λ_ _ _ _ h=>h) kR (.int .i64 en) kF ?_
       exact Bc fin (g12,W1,c1,M1,[zT ax ay ai gt spt,zA fK n ga spa,zR n ga gr ca,zX z kx gs]) ⟨sa1,sc1,hU1⟩ kR ac4 (Sy.flat_perm (ls:=[zB sd ax ay ai kx g0 g1 g2,[zT ax ay ai gt spt],[zA fK n ga spa],[zR n ga gr ca],[zW g12],[zX z kx gs],M1]) (ms:=[zB sd ax ay ai kx g0 g1 g2,[zW g12],M1,[zT ax ay ai gt spt],[zA fK n ga spa],[zR n ga gr ca],[zX z kx gs]]) [0,4,6,1,2,3,5] kZ (by rfl) (by simp) (by simp))
     ·refine Sy.oneMake U kZ 44 (BV z kx).toArray (λg=>.slice (pA g) 1 1) kF (λgs=>?_)
      refine Sy.anyOf [5,14] kZ dZ (Sy.each2 ?_ ?_)
      ·refine Sy.oneCallN U kZ 87 #[.slice A n c,pv ax ay ai] kF (RgO fK n) hc5 (λv M hR0=>?_)
       obtain ⟨ga,spa,ca,gr,rfl,rfl⟩:=hR0
       refine Sy.anyOf [10,14] kZ dZ (Sy.each2 ?_ ?_)
       ·refine Sy.oneCallN U kZ 70 #[.agg (sd.map bv).toArray,.slice (pA gt) 33 ct,.slice (pA gr) 1 1,.slice (pA gs) 1 1] kF (SgU (Base.of w) dU NU (λ_=>n) zS en) (λw' hw=>hsign w' hw gt ga gr gs spt ct spa ca hct (hw.get (i:=3) rfl) (hw.get (i:=6) rfl) (BN (g:=ga) (e:=48) (sp:=spa) hf9 hw (by simp)) (hw.get (i:=4) rfl)) (λv M1 hR0=>?_)
        obtain ⟨W1,c1,sa1,sc1,rfl,hU1⟩:=hR0
        refine sZ 11 U (.tuple #[AM dU W1 NU c1,.int .i64 en])<|sZ 12 U (AM dU W1 NU c1)<|Sy.stepDA 13 U kR (λ_ _ _ _ h=>h) kR (.int .i64 en) kF<|Sy.makeD 14 U kR kR 31 zS33.toArray ptr kF (λg12=>?_)
        exact Bc fin (g12,W1,c1,M1,[zT ax ay ai gt spt,zA fK n ga spa,zR n ga gr ca,zX z kx gs]) ⟨sa1,sc1,hU1⟩ kR ac4 (Sy.flat_perm (ls:=[zB sd ax ay ai kx g0 g1 g2,[zT ax ay ai gt spt],[zX z kx gs],[zA fK n ga spa],[zR n ga gr ca],M1,[zW g12]]) (ms:=[zB sd ax ay ai kx g0 g1 g2,[zW g12],M1,[zT ax ay ai gt spt],[zA fK n ga spa],[zR n ga gr ca],[zX z kx gs]]) [0,6,5,1,3,4,2] kZ (by rfl) (by simp) (by simp))
       ·refine Sy.oneMake U kZ 31 zS33.toArray ptr kF (λg12=>?_)
        refine Sy.callND 10 U kR kR 70 #[.agg (sd.map bv).toArray,.slice (pA gt) 33 ct,.slice (pA gr) 1 1,.slice (pA gs) 1 1] kF (SgU (Base.of w) dU NU (λ_=>n) zS en) (λw' hw=>hsign w' hw gt ga gr gs spt ct spa ca hct (hw.get (i:=3) rfl) (hw.get (i:=6) rfl) (BN (g:=ga) (e:=48) (sp:=spa) hf9 hw (by simp)) (hw.get (i:=4) rfl)) (λv M1 hR0=>?_)
        obtain ⟨W1,c1,sa1,sc1,rfl,hU1⟩:=hR0
        refine sZ 11 U (.tuple #[AM dU W1 NU c1,.int .i64 en])<|sZ 12 U (AM dU W1 NU c1)<|Sy.stepDA 13 U kR (λ_ _ _ _ h=>h) kR (.int .i64 en) kF ?_
        exact Bc fin (g12,W1,c1,M1,[zT ax ay ai gt spt,zA fK n ga spa,zR n ga gr ca,zX z kx gs]) ⟨sa1,sc1,hU1⟩ kR ac4 (Sy.flat_perm (ls:=[zB sd ax ay ai kx g0 g1 g2,[zT ax ay ai gt spt],[zX z kx gs],[zA fK n ga spa],[zR n ga gr ca],[zW g12],M1]) (ms:=[zB sd ax ay ai kx g0 g1 g2,[zW g12],M1,[zT ax ay ai gt spt],[zA fK n ga spa],[zR n ga gr ca],[zX z kx gs]]) [0,5,6,1,3,4,2] kZ (by rfl) (by simp) (by simp))
      ·refine Sy.oneMake U kZ 31 zS33.toArray ptr kF (λg12=>?_)
       refine Sy.callND 5 U kR kR 87 #[.slice A n c,pv ax ay ai] kF (RgO fK n) hc5 (λv M hR0=>?_)
       obtain ⟨ga,spa,ca,gr,rfl,rfl⟩:=hR0
       refine Sy.callND 10 U kR kR 70 #[.agg (sd.map bv).toArray,.slice (pA gt) 33 ct,.slice (pA gr) 1 1,.slice (pA gs) 1 1] kF (SgU (Base.of w) dU NU (λ_=>n) zS en) (λw' hw=>hsign w' hw gt ga gr gs spt ct spa ca hct (hw.get (i:=3) rfl) (hw.get (i:=7) rfl) (BN (g:=ga) (e:=48) (sp:=spa) hf9 hw (by simp)) (hw.get (i:=4) rfl)) (λv M1 hR0=>?_)
       obtain ⟨W1,c1,sa1,sc1,rfl,hU1⟩:=hR0
       refine sZ 11 U (.tuple #[AM dU W1 NU c1,.int .i64 en])<|sZ 12 U (AM dU W1 NU c1)<|Sy.stepDA 13 U kR (λ_ _ _ _ h=>h) kR (.int .i64 en) kF ?_
       exact Bc fin (g12,W1,c1,M1,[zT ax ay ai gt spt,zA fK n ga spa,zR n ga gr ca,zX z kx gs]) ⟨sa1,sc1,hU1⟩ kR ac4 (Sy.flat_perm (ls:=[zB sd ax ay ai kx g0 g1 g2,[zT ax ay ai gt spt],[zX z kx gs],[zW g12],[zA fK n ga spa],[zR n ga gr ca],M1]) (ms:=[zB sd ax ay ai kx g0 g1 g2,[zW g12],M1,[zT ax ay ai gt spt],[zA fK n ga spa],[zR n ga gr ca],[zX z kx gs]]) [0,3,6,1,4,5,2] kZ (by rfl) (by simp) (by simp))
     ·refine Sy.oneMake U kZ 31 zS33.toArray ptr kF (λg12=>?_)
      refine Sy.anyOf [5,9] kZ dZ (Sy.each2 ?_ ?_)
      ·refine Sy.oneCallN U kZ 87 #[.slice A n c,pv ax ay ai] kF (RgO fK n) hc5 (λv M hR0=>?_)
       obtain ⟨ga,spa,ca,gr,rfl,rfl⟩:=hR0
       refine Sy.makeD 9 U kR kR 44 (BV z kx).toArray (λg=>.slice (pA g) 1 1) kF (λgs=>?_)
       refine Sy.callND 10 U kR kR 70 #[.agg (sd.map bv).toArray,.slice (pA gt) 33 ct,.slice (pA gr) 1 1,.slice (pA gs) 1 1] kF (SgU (Base.of w) dU NU (λ_=>n) zS en) (λw' hw=>hsign w' hw gt ga gr gs spt ct spa ca hct (hw.get (i:=3) rfl) (hw.get (i:=6) rfl) (BN (g:=ga) (e:=48) (sp:=spa) hf9 hw (by simp)) (hw.get (i:=7) rfl)) (λv M1 hR0=>?_)
       obtain ⟨W1,c1,sa1,sc1,rfl,hU1⟩:=hR0
       refine sZ 11 U (.tuple #[AM dU W1 NU c1,.int .i64 en])<|sZ 12 U (AM dU W1 NU c1)<|Sy.stepDA 13 U kR (λ_ _ _ _ h=>h) kR (.int .i64 en) kF ?_
       exact Bc fin (g12,W1,c1,M1,[zT ax ay ai gt spt,zA fK n ga spa,zR n ga gr ca,zX z kx gs]) ⟨sa1,sc1,hU1⟩ kR ac4 (Sy.flat_perm (ls:=[zB sd ax ay ai kx g0 g1 g2,[zT ax ay ai gt spt],[zW g12],[zA fK n ga spa],[zR n ga gr ca],[zX z kx gs],M1]) (ms:=[zB sd ax ay ai kx g0 g1 g2,[zW g12],M1,[zT ax ay ai gt spt],[zA fK n ga spa],[zR n ga gr ca],[zX z kx gs]]) [0,2,6,1,3,4,5] kZ (by rfl) (by simp) (by simp))
      ·refine Sy.oneMake U kZ 44 (BV z kx).toArray (λg=>.slice (pA g) 1 1) kF (λgs=>?_)
       refine Sy.callND 5 U kR kR 87 #[.slice A n c,pv ax ay ai] kF (RgO fK n) hc5 (λv M hR0=>?_)
       obtain ⟨ga,spa,ca,gr,rfl,rfl⟩:=hR0
       refine Sy.callND 10 U kR kR 70 #[.agg (sd.map bv).toArray,.slice (pA gt) 33 ct,.slice (pA gr) 1 1,.slice (pA gs) 1 1] kF (SgU (Base.of w) dU NU (λ_=>n) zS en) (λw' hw=>hsign w' hw gt ga gr gs spt ct spa ca hct (hw.get (i:=3) rfl) (hw.get (i:=7) rfl) (BN (g:=ga) (e:=48) (sp:=spa) hf9 hw (by simp)) (hw.get (i:=5) rfl)) (λv M1 hR0=>?_)
       obtain ⟨W1,c1,sa1,sc1,rfl,hU1⟩:=hR0
       refine sZ 11 U (.tuple #[AM dU W1 NU c1,.int .i64 en])<|sZ 12 U (AM dU W1 NU c1)<|Sy.stepDA 13 U kR (λ_ _ _ _ h=>h) kR (.int .i64 en) kF ?_
       exact Bc fin (g12,W1,c1,M1,[zT ax ay ai gt spt,zA fK n ga spa,zR n ga gr ca,zX z kx gs]) ⟨sa1,sc1,hU1⟩ kR ac4 (Sy.flat_perm (ls:=[zB sd ax ay ai kx g0 g1 g2,[zT ax ay ai gt spt],[zW g12],[zX z kx gs],[zA fK n ga spa],[zR n ga gr ca],M1]) (ms:=[zB sd ax ay ai kx g0 g1 g2,[zW g12],M1,[zT ax ay ai gt spt],[zA fK n ga spa],[zR n ga gr ca],[zX z kx gs]]) [0,2,6,1,4,5,3] kZ (by rfl) (by simp) (by simp))
    ·refine Sy.oneMake U kZ 44 (BV z kx).toArray (λg=>.slice (pA g) 1 1) kF (λgs=>?_)
     refine Sy.anyOf [2,14] kZ dZ (Sy.each2 ?_ ?_)
     ·refine Sy.oneCallN U kZ 42 #[pv ax ay ai] kF (P8 ax ay ai) (λw _=>C8 w ax ay ai hax hay) (λv M hR0=>?_)
      obtain ⟨gt,spt,ct,rfl,hct,rfl⟩:=hR0
      refine Sy.anyOf [5,14] kZ dZ (Sy.each2 ?_ ?_)
      ·refine Sy.oneCallN U kZ 87 #[.slice A n c,pv ax ay ai] kF (RgO fK n) hc5 (λv M hR0=>?_)
       obtain ⟨ga,spa,ca,gr,rfl,rfl⟩:=hR0
       refine Sy.anyOf [10,14] kZ dZ (Sy.each2 ?_ ?_)
       ·refine Sy.oneCallN U kZ 70 #[.agg (sd.map bv).toArray,.slice (pA gt) 33 ct,.slice (pA gr) 1 1,.slice (pA gs) 1 1] kF (SgU (Base.of w) dU NU (λ_=>n) zS en) (λw' hw=>hsign w' hw gt ga gr gs spt ct spa ca hct (hw.get (i:=4) rfl) (hw.get (i:=6) rfl) (BN (g:=ga) (e:=48) (sp:=spa) hf9 hw (by simp)) (hw.get (i:=3) rfl)) (λv M1 hR0=>?_)
        obtain ⟨W1,c1,sa1,sc1,rfl,hU1⟩:=hR0
        refine sZ 11 U (.tuple #[AM dU W1 NU c1,.int .i64 en])<|sZ 12 U (AM dU W1 NU c1)<|Sy.stepDA 13 U kR (λ_ _ _ _ h=>h) kR (.int .i64 en) kF<|Sy.makeD 14 U kR kR 31 zS33.toArray ptr kF (λg12=>?_)
        exact Bc fin (g12,W1,c1,M1,[zT ax ay ai gt spt,zA fK n ga spa,zR n ga gr ca,zX z kx gs]) ⟨sa1,sc1,hU1⟩ kR ac4 (Sy.flat_perm (ls:=[zB sd ax ay ai kx g0 g1 g2,[zX z kx gs],[zT ax ay ai gt spt],[zA fK n ga spa],[zR n ga gr ca],M1,[zW g12]]) (ms:=[zB sd ax ay ai kx g0 g1 g2,[zW g12],M1,[zT ax ay ai gt spt],[zA fK n ga spa],[zR n ga gr ca],[zX z kx gs]]) [0,6,5,2,3,4,1] kZ (by rfl) (by simp) (by simp))
       ·refine Sy.oneMake U kZ 31 zS33.toArray ptr kF (λg12=>?_)
        refine Sy.callND 10 U kR kR 70 #[.agg (sd.map bv).toArray,.slice (pA gt) 33 ct,.slice (pA gr) 1 1,.slice (pA gs) 1 1] kF (SgU (Base.of w) dU NU (λ_=>n) zS en) (λw' hw=>hsign w' hw gt ga gr gs spt ct spa ca hct (hw.get (i:=4) rfl) (hw.get (i:=6) rfl) (BN (g:=ga) (e:=48) (sp:=spa) hf9 hw (by simp)) (hw.get (i:=3) rfl)) (λv M1 hR0=>?_)
        obtain ⟨W1,c1,sa1,sc1,rfl,hU1⟩:=hR0
        refine sZ 11 U (.tuple #[AM dU W1 NU c1,.int .i64 en])<|sZ 12 U (AM dU W1 NU c1)<|Sy.stepDA 13 U kR (λ_ _ _ _ h=>h) kR (.int .i64 en) kF ?_
        exact Bc fin (g12,W1,c1,M1,[zT ax ay ai gt spt,zA fK n ga spa,zR n ga gr ca,zX z kx gs]) ⟨sa1,sc1,hU1⟩ kR ac4 (Sy.flat_perm (ls:=[zB sd ax ay ai kx g0 g1 g2,[zX z kx gs],[zT ax ay ai gt spt],[zA fK n ga spa],[zR n ga gr ca],[zW g12],M1]) (ms:=[zB sd ax ay ai kx g0 g1 g2,[zW g12],M1,[zT ax ay ai gt spt],[zA fK n ga spa],[zR n ga gr ca],[zX z kx gs]]) [0,5,6,2,3,4,1] kZ (by rfl) (by simp) (by simp))
      ·refine Sy.oneMake U kZ 31 zS33.toArray ptr kF (λg12=>?_)
       refine Sy.callND 5 U kR kR 87 #[.slice A n c,pv ax ay ai] kF (RgO fK n) hc5 (λv M hR0=>?_)
       obtain ⟨ga,spa,ca,gr,rfl,rfl⟩:=hR0
       refine Sy.callND 10 U kR kR 70 #[.agg (sd.map bv).toArray,.slice (pA gt) 33 ct,.slice (pA gr) 1 1,.slice (pA gs) 1 1] kF (SgU (Base.of w) dU NU (λ_=>n) zS en) (λw' hw=>hsign w' hw gt ga gr gs spt ct spa ca hct (hw.get (i:=4) rfl) (hw.get (i:=7) rfl) (BN (g:=ga) (e:=48) (sp:=spa) hf9 hw (by simp)) (hw.get (i:=3) rfl)) (λv M1 hR0=>?_)
       obtain ⟨W1,c1,sa1,sc1,rfl,hU1⟩:=hR0
       refine sZ 11 U (.tuple #[AM dU W1 NU c1,.int .i64 en])<|sZ 12 U (AM dU W1 NU c1)<|Sy.stepDA 13 U kR (λ_ _ _ _ h=>h) kR (.int .i64 en) kF ?_
       exact Bc fin (g12,W1,c1,M1,[zT ax ay ai gt spt,zA fK n ga spa,zR n ga gr ca,zX z kx gs]) ⟨sa1,sc1,hU1⟩ kR ac4 (Sy.flat_perm (ls:=[zB sd ax ay ai kx g0 g1 g2,[zX z kx gs],[zT ax ay ai gt spt],[zW g12],[zA fK n ga spa],[zR n ga gr ca],M1]) (ms:=[zB sd ax ay ai kx g0 g1 g2,[zW g12],M1,[zT ax ay ai gt spt],[zA fK n ga spa],[zR n ga gr ca],[zX z kx gs]]) [0,3,6,2,4,5,1] kZ (by rfl) (by simp) (by simp))
     ·refine Sy.oneMake U kZ 31 zS33.toArray ptr kF (λg12=>?_)
      refine Sy.callND 2 U kR kR 42 #[pv ax ay ai] kF (P8 ax ay ai) (λw _=>C8 w ax ay ai hax hay) (λv M hR0=>?_)
      obtain ⟨gt,spt,ct,rfl,hct,rfl⟩:=hR0
      refine Sy.callND 5 U kR kR 87 #[.slice A n c,pv ax ay ai] kF (RgO fK n) hc5 (λv M hR0=>?_)
      obtain ⟨ga,spa,ca,gr,rfl,rfl⟩:=hR0
      refine Sy.callND 10 U kR kR 70 #[.agg (sd.map bv).toArray,.slice (pA gt) 33 ct,.slice (pA gr) 1 1,.slice (pA gs) 1 1] kF (SgU (Base.of w) dU NU (λ_=>n) zS en) (λw' hw=>hsign w' hw gt ga gr gs spt ct spa ca hct (hw.get (i:=5) rfl) (hw.get (i:=7) rfl) (BN (g:=ga) (e:=48) (sp:=spa) hf9 hw (by simp)) (hw.get (i:=3) rfl)) (λv M1 hR0=>?_)
      obtain ⟨W1,c1,sa1,sc1,rfl,hU1⟩:=hR0
      refine sZ 11 U (.tuple #[AM dU W1 NU c1,.int .i64 en])<|sZ 12 U (AM dU W1 NU c1)<|Sy.stepDA 13 U kR (λ_ _ _ _ h=>h) kR (.int .i64 en) kF ?_
      exact Bc fin (g12,W1,c1,M1,[zT ax ay ai gt spt,zA fK n ga spa,zR n ga gr ca,zX z kx gs]) ⟨sa1,sc1,hU1⟩ kR ac4 (Sy.flat_perm (ls:=[zB sd ax ay ai kx g0 g1 g2,[zX z kx gs],[zW g12],[zT ax ay ai gt spt],[zA fK n ga spa],[zR n ga gr ca],M1]) (ms:=[zB sd ax ay ai kx g0 g1 g2,[zW g12],M1,[zT ax ay ai gt spt],[zA fK n ga spa],[zR n ga gr ca],[zX z kx gs]]) [0,2,6,3,4,5,1] kZ (by rfl) (by simp) (by simp))
    ·refine Sy.oneMake U kZ 31 zS33.toArray ptr kF (λg12=>?_)
     refine Sy.anyOf [2,9] kZ dZ (Sy.each2 ?_ ?_)
     ·refine Sy.oneCallN U kZ 42 #[pv ax ay ai] kF (P8 ax ay ai) (λw _=>C8 w ax ay ai hax hay) (λv M hR0=>?_)
      obtain ⟨gt,spt,ct,rfl,hct,rfl⟩:=hR0
      refine Sy.anyOf [5,9] kZ dZ (Sy.each2 ?_ ?_)
      ·refine Sy.oneCallN U kZ 87 #[.slice A n c,pv ax ay ai] kF (RgO fK n) hc5 (λv M hR0=>?_)
       obtain ⟨ga,spa,ca,gr,rfl,rfl⟩:=hR0
       refine Sy.makeD 9 U kR kR 44 (BV z kx).toArray (λg=>.slice (pA g) 1 1) kF (λgs=>?_)
       refine Sy.callND 10 U kR kR 70 #[.agg (sd.map bv).toArray,.slice (pA gt) 33 ct,.slice (pA gr) 1 1,.slice (pA gs) 1 1] kF (SgU (Base.of w) dU NU (λ_=>n) zS en) (λw' hw=>hsign w' hw gt ga gr gs spt ct spa ca hct (hw.get (i:=4) rfl) (hw.get (i:=6) rfl) (BN (g:=ga) (e:=48) (sp:=spa) hf9 hw (by simp)) (hw.get (i:=7) rfl)) (λv M1 hR0=>?_)
       obtain ⟨W1,c1,sa1,sc1,rfl,hU1⟩:=hR0
       refine sZ 11 U (.tuple #[AM dU W1 NU c1,.int .i64 en])<|sZ 12 U (AM dU W1 NU c1)<|Sy.stepDA 13 U kR (λ_ _ _ _ h=>h) kR (.int .i64 en) kF ?_
       exact Bc fin (g12,W1,c1,M1,[zT ax ay ai gt spt,zA fK n ga spa,zR n ga gr ca,zX z kx gs]) ⟨sa1,sc1,hU1⟩ kR ac4 (Sy.flat_perm (ls:=[zB sd ax ay ai kx g0 g1 g2,[zW g12],[zT ax ay ai gt spt],[zA fK n ga spa],[zR n ga gr ca],[zX z kx gs],M1]) (ms:=[zB sd ax ay ai kx g0 g1 g2,[zW g12],M1,[zT ax ay ai gt spt],[zA fK n ga spa],[zR n ga gr ca],[zX z kx gs]]) [0,1,6,2,3,4,5] kZ (by rfl) (by simp) (by simp))
      ·refine Sy.oneMake U kZ 44 (BV z kx).toArray (λg=>.slice (pA g) 1 1) kF (λgs=>?_)
       refine Sy.callND 5 U kR kR 87 #[.slice A n c,pv ax ay ai] kF (RgO fK n) hc5 (λv M hR0=>?_)
       obtain ⟨ga,spa,ca,gr,rfl,rfl⟩:=hR0
       refine Sy.callND 10 U kR kR 70 #[.agg (sd.map bv).toArray,.slice (pA gt) 33 ct,.slice (pA gr) 1 1,.slice (pA gs) 1 1] kF (SgU (Base.of w) dU NU (λ_=>n) zS en) (λw' hw=>hsign w' hw gt ga gr gs spt ct spa ca hct (hw.get (i:=4) rfl) (hw.get (i:=7) rfl) (BN (g:=ga) (e:=48) (sp:=spa) hf9 hw (by simp)) (hw.get (i:=5) rfl)) (λv M1 hR0=>?_)
       obtain ⟨W1,c1,sa1,sc1,rfl,hU1⟩:=hR0
       refine sZ 11 U (.tuple #[AM dU W1 NU c1,.int .i64 en])<|sZ 12 U (AM dU W1 NU c1)<|Sy.stepDA 13 U kR (λ_ _ _ _ h=>h) kR (.int .i64 en) kF ?_
       exact Bc fin (g12,W1,c1,M1,[zT ax ay ai gt spt,zA fK n ga spa,zR n ga gr ca,zX z kx gs]) ⟨sa1,sc1,hU1⟩ kR ac4 (Sy.flat_perm (ls:=[zB sd ax ay ai kx g0 g1 g2,[zW g12],[zT ax ay ai gt spt],[zX z kx gs],[zA fK n ga spa],[zR n ga gr ca],M1]) (ms:=[zB sd ax ay ai kx g0 g1 g2,[zW g12],M1,[zT ax ay ai gt spt],[zA fK n ga spa],[zR n ga gr ca],[zX z kx gs]]) [0,1,6,2,4,5,3] kZ (by rfl) (by simp) (by simp))
     ·refine Sy.oneMake U kZ 44 (BV z kx).toArray (λg=>.slice (pA g) 1 1) kF (λgs=>?_)
      refine Sy.callND 2 U kR kR 42 #[pv ax ay ai] kF (P8 ax ay ai) (λw _=>C8 w ax ay ai hax hay) (λv M hR0=>?_)
      obtain ⟨gt,spt,ct,rfl,hct,rfl⟩:=hR0
      refine Sy.callND 5 U kR kR 87 #[.slice A n c,pv ax ay ai] kF (RgO fK n) hc5 (λv M hR0=>?_)
      obtain ⟨ga,spa,ca,gr,rfl,rfl⟩:=hR0
      refine Sy.callND 10 U kR kR 70 #[.agg (sd.map bv).toArray,.slice (pA gt) 33 ct,.slice (pA gr) 1 1,.slice (pA gs) 1 1] kF (SgU (Base.of w) dU NU (λ_=>n) zS en) (λw' hw=>hsign w' hw gt ga gr gs spt ct spa ca hct (hw.get (i:=5) rfl) (hw.get (i:=7) rfl) (BN (g:=ga) (e:=48) (sp:=spa) hf9 hw (by simp)) (hw.get (i:=4) rfl)) (λv M1 hR0=>?_)
      obtain ⟨W1,c1,sa1,sc1,rfl,hU1⟩:=hR0
      refine sZ 11 U (.tuple #[AM dU W1 NU c1,.int .i64 en])<|sZ 12 U (AM dU W1 NU c1)<|Sy.stepDA 13 U kR (λ_ _ _ _ h=>h) kR (.int .i64 en) kF ?_
      exact Bc fin (g12,W1,c1,M1,[zT ax ay ai gt spt,zA fK n ga spa,zR n ga gr ca,zX z kx gs]) ⟨sa1,sc1,hU1⟩ kR ac4 (Sy.flat_perm (ls:=[zB sd ax ay ai kx g0 g1 g2,[zW g12],[zX z kx gs],[zT ax ay ai gt spt],[zA fK n ga spa],[zR n ga gr ca],M1]) (ms:=[zB sd ax ay ai kx g0 g1 g2,[zW g12],M1,[zT ax ay ai gt spt],[zA fK n ga spa],[zR n ga gr ca],[zX z kx gs]]) [0,1,6,3,4,5,2] kZ (by rfl) (by simp) (by simp))
  ·have lb1:=dY hb1
   rw [Pz (.inr lb1)]
   refine sG<|sT<|sC<|sP (.slice none 0 0)<|sP (.int .i64 100)<|sG<|Sy.ret<|Sy.then_ret ?_
   exact BD [] rfl (v:=.slice none 0 0) (u:=.int .i64 100) (.inl (show _=_ by kernel_rfl)) (.inl (show _=_ by kernel_rfl)) (λ_ hw=>hw.none) (.inl ⟨rfl,rfl,rfl⟩)
 ·have lb0:=dY hb0
  rw [Pz (.inl lb0)]
  refine sN<|sN<|sN<|sP (.bool true)<|sG<|sT<|sC<|sP (.slice none 0 0)<|sP (.int .i64 100)<|sG<|Sy.ret<|Sy.then_ret ?_
  exact BD [] rfl (v:=.slice none 0 0) (u:=.int .i64 100) (.inl (show _=_ by kernel_rfl)) (.inl (show _=_ by kernel_rfl)) (λ_ hw=>hw.none) (.inl ⟨rfl,rfl,rfl⟩)
end Cu
end
section
namespace Cu
open Go.RowKit Sy
def pvE (al bf:Bool):Int:=if al then (if bf then 0 else 101) else 100
def pvL (al bf:Bool) (l:List UInt8):List UInt8:=if al && bf then l else []
def S' (en:Int) (l:List UInt8) (v:Value) (M:AB):Prop:=∃ y:Slc,v=.tuple #[y.v,.int .i64 en]∧M=y.bl∧y.Is 5 1 (Aj l)
theorem PrvR.uni {al bf:Bool} {l:List UInt8} {v:Value} {M:AB} (h:PrvR al bf l v M):S' (pvE al bf) (pvL al bf l) v M:=by
 rcases h with ⟨rfl,rfl,rfl⟩ | ⟨rfl,rfl,rfl,rfl⟩ | ⟨rfl,rfl,y,rfl,rfl,hy⟩
 ·exact ⟨nilS,rfl,rfl,Slc.Is.nil _ _⟩
 ·exact ⟨nilS,rfl,rfl,Slc.Is.nil _ _⟩
 ·exact ⟨y,rfl,rfl,hy⟩
theorem law_surjectproves (w:World) (sd:List UInt8) (hsd:sd.length=32) (A:Option Addr) (n c:Nat) (X Y:Nat→Nat) (I:Nat→Bool) (hX:∀ k,X k<K4) (hY:∀ k,Y k<K4) (hn:n≤9223372036854775807) (hlk:Lst w 9 A n (λk=>pml (X k) (Y k) (I k))) (ax ay:Nat) (ai:Bool) (hax:ax<K4) (hay:ay<K4) (z:Int) (kx:Nat) (hkx:kx<K4) (ht:Sh.TabAt w 1) (htr:Sh.TabAt w 0) :
  Calls Tryz.prog 8 #[csv sd (c10 A n c ax ay ai z kx)] w (Gets w (.bool true)):=by
 obtain ⟨en,hen⟩:=xE (pvE (EJ n) (sjF ax ay ai X Y I n z kx))
 obtain ⟨l,hl⟩:=xE (pvL (EJ n) (sjF ax ay ai X Y I n z kx) (sjL sd ax ay ai X Y I n z kx))
 refine Sy.enter (args:=[csv sd (c10 A n c ax ay ai z kx)]) Tryz.func8 U kL ?_
 refine sC<|sM 72 (csl sd (c10 A n c ax ay ai z kx)).toArray (λg0=>?_)
 refine sP (.bool false)<|sA<|sP (pT g0 0)<|sS (.agg (sd.map bv).toArray) (Quiet.load 0 g0 0 32 72 23 (csl sd (c10 A n c ax ay ai z kx)).toArray _ _ U kR kR DA U kR _ (Kl hsd) (Mw hsd))<|sP (pT g0 32)<|sS (.slice A n c) (Quiet.cell 0 g0 32 72 45 (csl sd (c10 A n c ax ay ai z kx)).toArray _ _ U kR kR B1 U _ (Mx hsd 0)) <|
  sP (pT g0 33)<|sS (pv ax ay ai) (Quiet.load 0 g0 33 9 72 48 (csl sd (c10 A n c ax ay ai z kx)).toArray _ _ U kR kR Ac U kR _ (Gh hsd 1 9 U) (Gg hsd 1 9 (by rw [Gi]; omega)))<|sP (pT g0 42)<|sS (.int .i64 z) (Quiet.cell 0 g0 42 72 3 (csl sd (c10 A n c ax ay ai z kx)).toArray _ _ U kR kR uy3 U _ (Mx hsd 10)) <|
  sP (pT g0 43)<|sS (fv kx) (Quiet.load 0 g0 43 4 72 42 (csl sd (c10 A n c ax ay ai z kx)).toArray _ _ U kR kR Ah U kR _ (Gh hsd 11 4 U) (Gg hsd 11 4 (by rw [Gi]; omega))) ?_
 refine Sy.callN kR 31 #[.agg (sd.map bv).toArray,.slice A n c,pv ax ay ai,.int .i64 z,fv kx] kF (S' en l) (λw' hw=>by rw [hen,hl]; exact Calls.mono (GK w' sd hsd A n c X Y I hX hY hn (hlk.below hw.below) ax ay ai hax hay z kx hkx (ht.below hw.below ht.lt)) (λe w' ⟨v,M,q1,q2,q3⟩=>⟨v,M,q1,PrvR.uni q2,q3⟩)) (λv M hR0=>?_)
 obtain ⟨y1,rfl,rfl,hy1⟩:=hR0
 obtain ⟨A1,c1,hv1,hl1,hc1,hs1⟩:=F2 hy1
 refine sP (.tuple #[y1.v,.int .i64 en])<|sP y1.v<|sP (.int .i64 en)<|sP y1.v<|sP (.int .i64 en)<|sA<|sP (pT g0 0)<|sS (.agg (sd.map bv).toArray) (Quiet.load 0 g0 0 32 72 23 (csl sd (c10 A n c ax ay ai z kx)).toArray _ _ U kR kR DA U kR _ (Kl hsd) (Mw hsd))<|sP (pT g0 32)<|sS (.slice A n c) (Quiet.cell 0 g0 32 72 45 (csl sd (c10 A n c ax ay ai z kx)).toArray _ _ U kR kR B1 U _ (Mx hsd 0)) <|
  sP (pT g0 33)<|sS (pv ax ay ai) (Quiet.load 0 g0 33 9 72 48 (csl sd (c10 A n c ax ay ai z kx)).toArray _ _ U kR kR Ac U kR _ (Gh hsd 1 9 U) (Gg hsd 1 9 (by rw [Gi]; omega)))<|sP (pT g0 42)<|sS (.int .i64 z) (Quiet.cell 0 g0 42 72 3 (csl sd (c10 A n c ax ay ai z kx)).toArray _ _ U kR kR uy3 U _ (Mx hsd 10)) <|
  sP (pT g0 43)<|sS (fv kx) (Quiet.load 0 g0 43 4 72 42 (csl sd (c10 A n c ax ay ai z kx)).toArray _ _ U kR kR Ah U kR _ (Gh hsd 11 4 U) (Gg hsd 11 4 (by rw [Gi]; omega))) ?_
 refine Sy.callN kR 32 #[.agg (sd.map bv).toArray,.slice A n c,pv ax ay ai,.int .i64 z,fv kx] kF (S' en l) (λw' hw=>by rw [hen,hl]; exact Calls.mono (NY w' sd hsd A n c X Y I hX hY hn (hlk.below hw.below) ax ay ai hax hay z kx hkx (htr.below hw.below htr.lt)) (λe w' ⟨v,M,q1,q2,q3⟩=>⟨v,M,q1,PrvR.uni q2,q3⟩)) (λv M hR0=>?_)
 obtain ⟨y2,rfl,rfl,hy2⟩:=hR0
 obtain ⟨A2,c2,hv2,hl2,hc2,hs2⟩:=F2 hy2
 refine sP (.tuple #[y2.v,.int .i64 en])<|sP y2.v<|sP (.int .i64 en)<|sP y2.v<|sP (.int .i64 en)<|sA<|sS (.bool true) (qG 33 #[] (λw hw=>Rh w (ht.below hw.below ht.lt)))<|sP (.bool true)<|sP (.int .i64 en)<|sP (.int .i64 en)<|sS (.bool true) (Quiet.pure (AV .eql _ _ _ .i64 _ _ _ U U U (Mm _ _ _ _ _ (decide_eq_true U))))<|sP (.bool true)<|sP (.bool true) <|
  sP y1.v<|sS (.string ⟨l.toArray⟩) (TQ A1 l l.length c1 _ U (by rw [← hv1]; kernel_rfl) rfl (λw hw=>hs1 hw (λb hb=>by simp only [List.mem_append]; exact .inl (.inr hb)))) <|
  sP y2.v<|sS (.string ⟨l.toArray⟩) (TQ A2 l l.length c2 _ U (by rw [← hv2]; kernel_rfl) rfl (λw hw=>hs2 hw (λb hb=>by simp only [List.mem_append]; exact .inr hb))) <|
  sS (.bool true) (Quiet.pure (λw=>(PR w _ _ _ _ l l U U U).trans (by rw [decide_eq_true U])))<|sP (.bool true)<|sP (.bool true) ?_
 refine sG<|Sy.ret ?_
 exact rV (.bool true) rfl
end Cu
end
end Go.Proofs.YtbjmjcpdonochaaGreatDoor
