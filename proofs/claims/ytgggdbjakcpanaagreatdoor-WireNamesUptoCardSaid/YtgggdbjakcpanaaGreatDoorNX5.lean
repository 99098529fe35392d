/-
  Texts of ours, put together: WirEB, WirP, WirQ, WirR, WirS, WirT, WirU, WirV, WirW, WirBC, WirBD, WirCE, WirCF, CrvY, RefNumber, SymX, CrvE, CrvZ, WirDH, WirDI, WirEC, WirDJ, WirCG, WirDK, WirDL, WirED, WirFA, ScSpec, ScLow, ScBase, ScOps, ScEq, ScB32, WirGA, WirGB, WirGC, WirGD.
-/
import Derived.Test.YtgggdbjakcpanaaGreatDoorNX4
set_option linter.unusedVariables false
set_option linter.unusedSimpArgs false
namespace Go.Proofs.YtgggdbjakcpanaaGreatDoor
section
namespace Wr
open Go.RowKit Sy
set_option maxRecDepth 100000
set_option maxHeartbeats 4000000
structure MCf where
 peg:Byt
 depth:Nat
 fed:MPa
 main:MHd
 coins:List MOu
def repCF (C:Rdr) (cs:List Value) (t:MCf):Prop:=∃ cp cm vc,cs=t.peg.map bv++([.int .u64 (t.depth:Int)]++(cp++(cm++[vc])))∧t.peg.length=32∧t.depth<18446744073709551616∧repPA C cp t.fed∧repMH C cm t.main∧LstR C 58 repOU vc t.coins
theorem monoCF:Mono repCF:=λhl ⟨cp,cm,vc,h0,h1,h2,h3,h4,h5⟩=>⟨cp,cm,vc,h0,h1,h2,monoPA hl h3,h4,LstR.le (rep:=repOU) monoOU hl h5⟩
def okCF (t:MCf):Bool:=okPA t.fed && (decide (t.coins.length≤64) && t.coins.all okOU)
def encCF (t:MCf):Byt:=t.peg++(nb 8 t.depth++(encPA t.fed++(encMH t.main++encL encOU t.coins)))
def wtCF (t:MCf):Nat:=32+(8+(wtPA t.fed+(80+(9+(t.coins.map wtOU).sum))))
theorem lenPA {C:Rdr} {cs:List Value} {t:MPa} (h:repPA C cs t):cs.length=2:=by obtain ⟨v,rfl,_⟩:=h; rfl
theorem lenMH {C:Rdr} {cs:List Value} {t:MHd} (h:repMH C cs t):cs.length=66:=by
 obtain ⟨rfl,h1,h2,_⟩:=h
 simp only [List.length_append,List.length_map,h1,h2]; rfl
theorem config_w:PutC 92 102 repCF okCF encCF wtCF:=λw0 gc gw gx f bad s R b cs x hx _ hc hb hl w hw=>by
 obtain ⟨pg,de,fe,mn,co⟩:=x
 obtain ⟨cp,cm,vc,rfl,h1,h2,h3,h4,h5⟩:=hx
 dsimp only at h1 h2 h3 h4 h5 hc
 unfold wtCF at hl
 dsimp only at hl
 have n1:(pg.map bv).length=32:=by rw [List.length_map,h1]
 have n3:=lenPA h3
 have n4:=lenMH h4
 have X0:XAt (rdC w0 R) gx f (pg.map bv):=hc.left
 have Y1:XAt (rdC w0 R) gx (f+32) ([.int .u64 (de:Int)]++(cp++(cm++[vc]))):=hc.right n1
 have Y2:XAt (rdC w0 R) gx (f+33) (cp++(cm++[vc])):=Y1.right (n:=1) rfl
 have Y3:XAt (rdC w0 R) gx (f+35) (cm++[vc]):=Y2.right n3
 have Y4:XAt (rdC w0 R) gx (f+101) [vc]:=Y3.right n4
 refine Sy.enterT (args:=[ptr gc,.pointer (some ⟨gx,f,none⟩)]) hw Tryz.func92 rfl kL ?_
 refine sC ?_
 refine sp rfl<|sp rfl<|sp rfl<|sP (.pointer (some ⟨gx,f,none⟩)) ?_
 refine Sy.callT (λw hw=>digest_w w0.inn gc gw gx f bad s R b pg h1 X0 hb (by omega) w hw) (λu M hM=>?_)
 obtain ⟨s1,bad1,b1,q1,p1,rfl⟩:=hM
 have l1:b1.length≤b.length+32:=q1.len
 refine sA ?_
 refine sp rfl<|sp rfl<|sp rfl<|sP (.pointer (some ⟨gx,f+32,none⟩)) ?_
 refine Sy.callT (λw hw=>long_w w0.inn gc gw gx (f+32) bad1 s1 R b1 de h2 Y1.one p1 (by omega) w hw) (λu M hM=>?_)
 obtain ⟨s2,bad2,b2,q2,p2,rfl⟩:=hM
 have l2:b2.length≤b1.length+8:=q2.len
 refine sA ?_
 refine sp rfl<|sp rfl<|sp rfl<|sP (.pointer (some ⟨gx,f+33,none⟩)) ?_
 refine Sy.callT (λw hw=>params_w w0.inn gc gw gx (f+33) bad2 s2 R b2 cp fe h3 n3 Y2.left p2 (by omega) w hw) (λu M hM=>?_)
 obtain ⟨s3,bad3,b3,q3,p3,rfl⟩:=hM
 have l3:b3.length≤b2.length+wtPA fe:=q3.len
 refine sA ?_
 refine sp rfl<|sp rfl<|sp rfl<|sP (.pointer (some ⟨gx,f+35,none⟩)) ?_
 refine Sy.callT (λw hw=>mainHeader_w w0.inn gc gw gx (f+35) bad3 s3 R b3 cm mn h4 n4 Y3.left p3 (by show _+80≤_; omega) w hw) (λu M hM=>?_)
 obtain ⟨s4,bad4,b4,q4,p4,rfl⟩:=hM
 have l4:b4.length≤b3.length+80:=q4.len
 refine Sy.nil<|Sy.then_<|Sy.region ?_
 refine sp rfl<|sp rfl<|sp rfl<|sP (.pointer (some ⟨gx,f+101,none⟩)) ?_
 refine Sy.callT (λw hw=>list_w_ous (rep:=repOU) monoOU out_w w0.inn gc gw gx (f+101) 64 (by decide) bad4 s4 R b4 vc co h5 Y4.one p4 (by omega) w hw) (λu M hM=>?_)
 obtain ⟨s5,bad5,b5,q5,p5,rfl⟩:=hM
 refine Sy.nil ?_
 have q:=q1.then_ (q2.then_ (q3.then_ (q4.then_ q5)))
 rw [Bool.true_and,Bool.true_and,Bool.true_and] at q
 exact Sy.retT0 rfl (CWS gc gw bad5 s5 R) (λ_ h=>h) (λ_=>⟨s5,bad5,b5,q,p5,rfl⟩)
theorem write_cfg {α:Type} {rep:Rdr→List Value→α→Prop} {ok:α→Bool} {enc:α→Byt} {wt:α→Nat} (hm:Mono rep) (hp:PutC 92 102 rep ok enc wt) (w:World) (cs:List Value) (x:α) (hx:rep (rdW w) cs x) (hl:cs.length=102) (hwt:wt x≤70368744170000) :
  Calls Tryz.prog 91 #[.agg cs.toArray,.func (.func 92) #[] #[]] w (GetsN w (BytE (ok x) (enc x))):=by
 refine Sy.enter (args:=[.agg cs.toArray,.func (.func 92) #[] #[]]) Tryz.func91 rfl kL ?_
 refine sC ?_
 refine sM 56 cs.toArray (λgx=>?_) kR (λw=>run_boxR rfl rfl (by kernel_rfl) hl w)
 refine sP (.slice none 0 0)<|sP (.int .i64 0) ?_
 refine sA ?_
 refine Sy.callN kR 59 #[] kF _ (λw _=>new_any w) (λv M hM=>?_)
 obtain ⟨gw,rfl,rfl⟩:=hM
 refine sP (.agg #[ptr gw,.pointer none,.bool false])<|sM 126 #[ptr gw,.pointer none,.bool false] (λgc=>?_)
 refine sp rfl ?_
 refine sA ?_
 refine Sy.permS (M:=CWS gc gw false nilS [(gx,56,cs.toArray)]) (Sy.perm_at [2,1,0] (by kernel_rfl) (by rfl)) ?_
 refine sp rfl<|sp rfl ?_
 refine Sy.callT (λw' hw=>hp (Base.of w) gc gw gx 0 false nilS [(gx,56,cs.toArray)] [] cs x (hm rdW_base hx) hl (memX (List.mem_singleton.2 rfl)) BS.nil (by show 0+_≤_; omega) w' hw) (λv M hM=>?_)
 obtain ⟨s,bad,b,q1,q2,rfl⟩:=hM
 have hbl:b.length≤wt x:=by have:=q1.len; simpa using this
 refine sG<|Sy.seq<|sC ?_
 refine sp rfl<|sp rfl<|sP (.pointer (some ⟨gc,2,none⟩))<|sS (.bool bad) (qc 0 2 rfl rfl Tryz.underlying4) ?_
 refine sG ?_
 cases bad
 ·have hok:ok x=true:=by
   have e:=q1.bad
   cases h:ok x with
   | true=>rfl
   | false=>rw [h] at e; cases e
  obtain rfl:b=enc x:=by have:=q1.bytes rfl; simpa using this
  refine sU<|Sy.skip<|sB ?_
  refine sp rfl<|sp rfl<|sP (.pointer (some ⟨gc,0,none⟩))<|sS (ptr gw) (qc 0 0 rfl rfl Tryz.underlying122) ?_
  refine Sy.callT (λw' hw=>bytes_any (Base.of w) gw s ((gc,126,#[ptr gw,.pointer none,.bool false])::[(gx,56,cs.toArray)]) (enc x) q2 (by omega) w' (hw.perm permCW)) (λv M hM=>?_)
  obtain ⟨N,hN,rfl⟩:=hM
  refine sp rfl<|sP (.int .i64 0) ?_
  refine sG<|Sy.ret ?_
  exact Sy.retGM2 N rfl (.inl (show _=_ by kernel_rfl)) (.inl (show _=_ by kernel_rfl)) (λ_ h=>h.less (List.sublist_append_right _ _)) (.inl ⟨hok,v,rfl,hN⟩)
 ·have hok:ok x=false:=by
   have e:=q1.bad
   cases h:ok x with
   | false=>rfl
   | true=>rw [h] at e; cases e
  refine sT<|sC ?_
  refine sP (.slice none 0 0)<|sP (.int .i64 120) ?_
  refine sG<|Sy.ret<|Sy.then_ret ?_
  exact Sy.retGM2 [] rfl (.inl (show _=_ by kernel_rfl)) (.inl (show _=_ by kernel_rfl)) (λ_ h=>h.none) (.inr ⟨hok,rfl,rfl⟩)
theorem ex_cfg {α:Type} {rep:Rdr→List Value→α→Prop} {ok:α→Bool} {enc:α→Byt} {wt:α→Nat} (hm:Mono rep) (hp:PutC 92 102 rep ok enc wt) (w:World) (cs:List Value) (x:α) (hx:rep (rdW w) cs x) (hl:cs.length=102) (hwt:wt x≤70368744170000) :
  Calls Tryz.prog 50 #[.agg cs.toArray] w (GetsN w (BytE (ok x) (enc x))):=by
 refine Sy.enter (args:=[.agg cs.toArray]) Tryz.func50 rfl kL ?_
 refine sC ?_
 refine sM 56 cs.toArray (λgx=>?_) kR (λw=>run_boxR rfl rfl (by kernel_rfl) hl w)
 refine sP (.slice none 0 0)<|sP (.int .i64 0) ?_
 refine sA ?_
 refine sS (.agg cs.toArray) (rowC (R:=[(gx,56,cs.toArray)]) (memX (List.mem_singleton.2 rfl)) (λ_ h=>h) hl rfl Tryz.underlying56) ?_
 refine Sy.callN kR 91 #[.agg cs.toArray,.func (.func 92) #[] #[]] kF (BytE (ok x) (enc x)) (λw' hw=>write_cfg (rep:=rep) hm hp w' cs x (hm (λg o u h=>rdC_world (R:=[]) hw (λ_ h=>by cases h) g o u (.inl h)) hx) hl hwt) (λv M hM=>?_)
 have hv:∃ a e:Value,v=.tuple #[a,e]:=by
  rcases hM with ⟨_,u,rfl,_⟩ | ⟨_,rfl,_⟩ <;> exact ⟨_,_,rfl⟩
 obtain ⟨a,e,rfl⟩:=hv
 refine sp rfl<|sp rfl<|sp rfl<|sp rfl ?_
 refine sG<|Sy.ret ?_
 exact Sy.retGM2 M rfl (.inl (show _=_ by kernel_rfl)) (.inl (show _=_ by kernel_rfl)) (λ_ h=>h.less (List.sublist_append_right _ _)) hM
end Wr
end
section
namespace Wr
open Go.RowKit Sy
set_option maxRecDepth 100000
set_option maxHeartbeats 4000000
end Wr
end
section
namespace Wr
open Go.RowKit Sy
set_option maxRecDepth 100000
set_option maxHeartbeats 4000000
theorem BS.one (g:Nat) (x:UInt8):BS ⟨.slice (some ⟨g,0,none⟩) 1 1,[(g,5,#[bv x])]⟩ [x]:=⟨byL_one [x],byL_oneC [x],.inr ⟨g,1,[],rfl,rfl,Nat.le_refl _,by decide⟩⟩
theorem ofNat_mod (q:Nat):UInt8.ofNat (q%256)=UInt8.ofNat q:=by apply UInt8.toNat_inj.1; simp [UInt8.toNat_ofNat']
theorem numberR_any (w:World) (n k:Nat) (hn:n<18446744073709551616) (hk:k≤8):Calls Tryz.prog 58 #[.int .u64 (n:Int),.int .i64 (k:Int)] w (GetsN w (ByN (nb k n))):=by
 refine Sy.enter (args:=[.int .u64 (n:Int),.int .i64 (k:Int)]) Tryz.func58 rfl kL ?_
 refine sC ?_
 refine sP (.slice none 0 0) ?_
 refine sA ?_
 refine sP (.slice none 0 0) ?_
 refine sG<|Sy.seq<|sC ?_
 refine sp rfl<|sS (.int .i64 ((k:Int) - 1)) (Quiet.pure (exec_int .sub _ _ _ .i64 _ _ _ rfl rfl rfl (int_sub _ _ _ _ _ (wrap_i64 (by omega) (by omega)))))<|sp rfl ?_
 refine sG<|Sy.block ?_
 refine Sy.loopT (Y:=Slc×Int) k (λi y=>[(0,.int .u64 (n:Int)),(1,.int .i64 (k:Int)),(5,y.1.v),(6,.int .i64 y.2)]) (λi y=>y.1.bl++[]) (λi y=>BS y.1 ((nb k n).take i)∧y.2=(k:Int) - 1 - (i:Int)) (nilS,(k:Int) - 1) ⟨BS.nil,by show _=(k:Int) - 1 - ((0:Nat):Int); omega⟩ (all_cons kR (all_cons kR (all_cons kR (all_cons kR all_nil)))) (λ_ h=>h) (λi y hi hy=>?_)
 obtain ⟨s,z⟩:=y
 obtain ⟨hs,hz⟩:=hy
 dsimp only at hs hz ⊢
 refine Sy.seq<|sC ?_
 obtain ⟨b1,hb1⟩:∃ z:Bool,z=decide (i<k):=⟨_,rfl⟩
 refine sp rfl<|sS (.bool b1) (Quiet.pure (exec_int .geq _ _ _ .i64 _ _ _ rfl rfl rfl (int_geq _ _ _ _ _ (by rw [hb1]; exact decide_eq_decide.2 (by omega))))) ?_
 refine sG ?_
 cases b1
 case' false =>
  have l1:¬ i<k:=of_decide_eq_false hb1.symm
  obtain rfl:i=k:=by omega
  refine sU<|Sy.exit<|Sy.then_exit<|Sy.then_exit<|Sy.in_exit<|Sy.then_<|sC ?_
  refine sp rfl<|sp rfl ?_
  refine sG<|Sy.ret ?_
  rw [List.take_of_length_le (by rw [nb_len]; exact Nat.le_refl _)] at hs
  exact Sy.retGM s.bl rfl (.inl (show _=_ by kernel_rfl)) (λ_ h=>by rw [List.append_nil] at h; exact h) hs.as
 have l1:i<k:=of_decide_eq_true hb1.symm
 obtain ⟨m,hm⟩:∃ m:Nat,m=k - 1 - i:=⟨_,rfl⟩
 obtain rfl:z=(m:Int):=by omega
 refine sT<|Sy.skip<|Sy.then_<|Sy.seq<|Sy.block<|sC ?_
 refine sp rfl<|sp rfl ?_
 refine sG<|Sy.seq<|sC ?_
 refine sP (.int .i64 0) ?_
 refine sG<|Sy.block ?_
 refine Sy.loopT (Y:=Nat) m (λj q=>[(0,.int .u64 (n:Int)),(1,.int .i64 (k:Int)),(5,s.v),(6,.int .i64 (m:Int)),(7,.int .u64 (q:Int)),(8,.int .i64 (j:Int))]) (λ_ _=>s.bl++[]) (λj q=>q=n / 256 ^ j) n (by rw [Nat.pow_zero,Nat.div_one]) (all_cons kR (all_cons kR (all_cons kR (all_cons kR (all_cons kR (all_cons kR all_nil)))))) (λ_ h=>h) (λj q hj hq=>?_)
 dsimp only at hq ⊢
 have hq2:q<18446744073709551616:=by rw [hq]; exact Nat.lt_of_le_of_lt (Nat.div_le_self _ _) hn
 refine Sy.seq<|sC ?_
 obtain ⟨b2,hb2⟩:∃ z:Bool,z=decide (j<m):=⟨_,rfl⟩
 refine sp rfl<|sp rfl<|sS (.bool b2) (Quiet.pure (exec_int .lss _ _ _ .i64 _ _ _ rfl rfl rfl (int_lss _ _ _ _ _ (by rw [hb2]; exact decide_eq_decide.2 (by omega))))) ?_
 refine sG ?_
 cases b2
 case' true =>
  have l2:j<m:=of_decide_eq_true hb2.symm
  refine sT<|Sy.skip<|Sy.then_<|Sy.seq<|Sy.block<|Sy.region ?_
  refine sp rfl<|sS (.int .u64 ((q / 256:Nat):Int)) (Quiet.pure (exec_int .quo _ _ _ .u64 _ _ _ rfl rfl rfl (int_quo _ _ _ _ _ (by decide) (by rw [show (q:Int).tdiv 256=((q / 256:Nat):Int) from rfl]; exact wrap_u64 (by omega) (by omega)))))<|sp rfl ?_
  refine Sy.nil<|Sy.in_<|Sy.then_<|Sy.region ?_
  refine sp rfl<|sS (.int .i64 ((j+1:Nat):Int)) (Quiet.pure (exec_int .add _ _ _ .i64 _ _ _ rfl rfl rfl (int_add _ _ _ _ _ ((wrap_i64 (by omega) (by omega)).trans (by omega)))))<|sp rfl ?_
  refine Sy.nil ?_
  exact Sy.againT (q / 256) l2 (by show q / 256=n / 256 ^ (j+1); rw [hq,Nat.div_div_eq_div_mul,Nat.pow_succ]) (all_cons kR (all_cons kR (all_cons kR (all_cons kR (all_cons kR (all_cons kR all_nil)))))) (λw h=>h)
 have l2:¬ j<m:=of_decide_eq_false hb2.symm
 obtain rfl:j=m:=by omega
 obtain ⟨x,hx⟩:∃ x,x=UInt8.ofNat (q%256):=⟨_,rfl⟩
 have hln:((nb k n).take i).length≤8:=by rw [List.length_take,nb_len]; omega
 refine sU<|Sy.exit<|Sy.then_exit<|Sy.then_exit<|Sy.in_exit<|Sy.then_<|Sy.region ?_
 refine sp rfl<|sp rfl<|sS (.int .u64 ((q%256:Nat):Int)) (Quiet.pure (exec_int .rem _ _ _ .u64 _ _ _ rfl rfl rfl (int_rem _ _ _ _ _ (by decide) rfl)))<|sS (bv x) (Quiet.pure (λw=>by rw [hx]; exact conv_6u8 w _ _ _ _ (by omega) rfl rfl)) ?_
 refine Sy.make kR 5 #[bv x] (λg=>.slice (some ⟨g,0,none⟩) 1 1) kF (λg1=>?_)
 refine Sy.movT (pre:=[]) (T:=s.bl++[]) ?_
 refine Sy.appendR (pre:=[(g1,5,#[bv x])]) (T:=[]) kR 29 5 _ _ 1 1 Tryz.underlying29 Cu.info_u8 rfl rfl rfl rfl (by decide) _ _ rfl hs kR [bv x] rfl (λu hu=>by rw [List.mem_singleton.1 hu]; rfl) 0 g1 5 kR kR (by rw [byL_len]; omega) (by rw [byL_len]; simp only [maxLen]; omega) (λr hr=>?_)
 refine sp rfl ?_
 refine Sy.nil<|Sy.in_<|Sy.then_<|Sy.region ?_
 refine sp rfl<|sS (.int .i64 ((j:Int) - 1)) (Quiet.pure (exec_int .sub _ _ _ .i64 _ _ _ rfl rfl rfl (int_sub _ _ _ _ _ (wrap_i64 (by omega) (by omega)))))<|sp rfl ?_
 refine Sy.nil ?_
 have hr':BS r ((nb k n).take (i+1)):=by
  have e:byL ((nb k n).take (i+1))=byL ((nb k n).take i)++[[bv x]]:=by
   rw [nb_take k n i l1,byL_app,hx,hq,ofNat_mod,hm]
   rfl
  show r.Is 5 1 _
  rw [e]
  exact hr
 exact Sy.againT (r,(j:Int) - 1) l1 ⟨hr',by show (j:Int) - 1=_; omega⟩ (all_cons kR (all_cons kR (all_cons kR (all_cons kR all_nil)))) (λw h=>h.less (List.sublist_cons_self _ _))
theorem varR_any (w:World) (n:Nat) (hn:n<18446744073709551616):Calls Tryz.prog 153 #[.int .u64 (n:Int)] w (GetsN w (ByN (varB n))):=by
 refine Sy.enter (args:=[.int .u64 (n:Int)]) Tryz.func153 rfl kL ?_
 refine sC ?_
 refine sP (.slice none 0 0) ?_
 refine sG<|Sy.seq<|sC ?_
 obtain ⟨b1,hb1⟩:∃ z:Bool,z=decide (n<253):=⟨_,rfl⟩
 refine sp rfl<|sS (.bool b1) (Quiet.pure (exec_int .lss _ _ _ .u64 _ _ _ rfl rfl rfl (int_lss _ _ _ _ _ (by rw [hb1]; exact decide_eq_decide.2 (by omega))))) ?_
 refine sG ?_
 cases b1
 case' true =>
  have l1:n<253:=of_decide_eq_true hb1.symm
  obtain ⟨x,hx⟩:∃ x,x=UInt8.ofNat n:=⟨_,rfl⟩
  refine sT<|sC ?_
  refine sp rfl<|sS (bv x) (Quiet.pure (λw=>by rw [hx]; exact conv_6u8 w _ _ _ _ hn rfl rfl)) ?_
  refine Sy.make kR 5 #[bv x] (λg=>.slice (some ⟨g,0,none⟩) 1 1) kF (λg1=>?_)
  refine sp rfl ?_
  refine sG<|Sy.ret<|Sy.then_ret ?_
  rw [show varB n=[x] by unfold varB; rw [if_pos l1,hx]]
  exact Sy.retGM [(g1,5,#[bv x])] rfl (.inl (show _=_ by kernel_rfl)) (λ_ h=>h) (BS.one g1 x).as
 have l1:¬ n<253:=of_decide_eq_false hb1.symm
 refine sU<|Sy.skip<|sB ?_
 refine sP (bv 253) ?_
 refine sA ?_
 refine sP (.int .i64 2) ?_
 refine sG ?_
 obtain ⟨c1,hc1⟩:∃ c:UInt8×Nat,c=if 65536≤n then (254,4) else (253,2):=⟨_,rfl⟩
 obtain ⟨c2,hc2⟩:∃ c:UInt8×Nat,c=if 4294967296≤n then (255,8) else c1:=⟨_,rfl⟩
 have hv:varB n=c2.1::nb c2.2 n:=by
  unfold varB
  rw [if_neg l1,hc2,hc1]
  by_cases h1:n<65536
  ·rw [if_pos h1,if_neg (show ¬ 4294967296≤n by omega),if_neg (show ¬ 65536≤n by omega)]
  ·rw [if_neg h1]
   by_cases h2:n<4294967296
   ·rw [if_pos h2,if_neg (show ¬ 4294967296≤n by omega),if_pos (show 65536≤n by omega)]
   ·rw [if_neg h2,if_pos (show 4294967296≤n by omega)]
 have hc8:c2.2≤8:=by
  rw [hc2,hc1]
  split
  ·exact Nat.le_refl _
  ·split
   ·show 4≤8; omega
   ·show 2≤8; omega
 refine Sy.seq ?_
 refine cutC [(0,.int .u64 (n:Int)),(3,bv c1.1),(4,.int .i64 ((c1.2:Nat):Int))] [] ?_ ?_
 ·refine sC ?_
  obtain ⟨b2,hb2⟩:∃ z:Bool,z=decide (65536≤n):=⟨_,rfl⟩
  refine sp rfl<|sS (.bool b2) (Quiet.pure (exec_int .geq _ _ _ .u64 _ _ _ rfl rfl rfl (int_geq _ _ _ _ _ (by rw [hb2]; exact decide_eq_decide.2 (by omega))))) ?_
  refine sG ?_
  cases b2
  ·rw [if_neg (of_decide_eq_false hb2.symm)] at hc1
   rw [hc1]
   refine sU<|Sy.skip ?_
   exact meet (all_cons kR (all_cons kR (all_cons kR all_nil))) (λ_ h=>h)
  ·rw [if_pos (of_decide_eq_true hb2.symm)] at hc1
   rw [hc1]
   refine sT<|Sy.region ?_
   refine sP (bv 254)<|sP (.int .i64 4) ?_
   refine Sy.nil ?_
   exact meet (all_cons kR (all_cons kR (all_cons kR all_nil))) (λ_ h=>h)
 clear hc1
 refine Sy.then_<|Sy.seq ?_
 refine cutC [(0,.int .u64 (n:Int)),(3,bv c2.1),(4,.int .i64 ((c2.2:Nat):Int))] [] ?_ ?_
 ·refine sC ?_
  obtain ⟨b2,hb2⟩:∃ z:Bool,z=decide (4294967296≤n):=⟨_,rfl⟩
  refine sp rfl<|sS (.bool b2) (Quiet.pure (exec_int .geq _ _ _ .u64 _ _ _ rfl rfl rfl (int_geq _ _ _ _ _ (by rw [hb2]; exact decide_eq_decide.2 (by omega))))) ?_
  refine sG ?_
  cases b2
  ·rw [if_neg (of_decide_eq_false hb2.symm)] at hc2
   rw [hc2]
   refine sU<|Sy.skip ?_
   exact meet (all_cons kR (all_cons kR (all_cons kR all_nil))) (λ_ h=>h)
  ·rw [if_pos (of_decide_eq_true hb2.symm)] at hc2
   rw [hc2]
   refine sT<|Sy.region ?_
   refine sP (bv 255)<|sP (.int .i64 8) ?_
   refine Sy.nil ?_
   exact meet (all_cons kR (all_cons kR (all_cons kR all_nil))) (λ_ h=>h)
 clear hc2
 obtain ⟨x,k⟩:=c2
 dsimp only at hv hc8 ⊢
 rw [hv]
 refine Sy.then_<|sC ?_
 refine sp rfl ?_
 refine Sy.make kR 5 #[bv x] (λg=>.slice (some ⟨g,0,none⟩) 1 1) kF (λg1=>?_)
 refine sp rfl ?_
 refine sA ?_
 refine sp rfl<|sp rfl<|sp rfl ?_
 refine Sy.callN kR 58 #[.int .u64 (n:Int),.int .i64 (k:Int)] kF _ (λw' _=>numberR_any w' n k hn hc8) (λu M hM=>?_)
 obtain ⟨A,m,cp,rfl,h2,h3,h4,h5⟩:=hM.byt
 rw [nb_len] at h2
 have hf:BytR (rdC (Base.of w) M) (.slice A m cp) (nb k n):=(hM.byt).le rdB_base
 refine Sy.appendM (pre:=[]) (r:=⟨.slice (some ⟨g1,0,none⟩) 1 1,[(g1,5,#[bv x])]⟩) (T:=M) kR 29 5 _ _ 1 1 Tryz.underlying29 Cu.info_u8 rfl rfl rfl rfl (by decide) _ _ rfl (BS.one g1 x) kR (byL_one (nb k n)) (byL_oneC (nb k n)) A m cp (by rw [byL_len,nb_len,h2]) h3 kR (λr=>BytR.from hf (λy hy=>List.mem_append_right [] (List.mem_append_right _ hy))) (by rw [byL_len]; show (1+m)*1≤_; omega) (by rw [byL_len]; show 1+m≤_; simp only [maxLen]; omega) (λr hr=>?_)
 have hr':BS r (x::nb k n):=hr
 refine sp rfl ?_
 refine sA ?_
 refine sp rfl<|sp rfl ?_
 refine sG<|Sy.ret ?_
 exact Sy.retGM r.bl rfl (.inl (show _=_ by kernel_rfl)) (λ_ h=>h.less (List.sublist_append_left _ _)) hr'.as
end Wr
end
section
namespace Wr
open Go.RowKit Sy
set_option maxRecDepth 100000
set_option maxHeartbeats 4000000
end Wr
end
section
namespace Wr
open Go.RowKit Sy
set_option maxRecDepth 100000
set_option maxHeartbeats 4000000
end Wr
end
section
namespace Wr
open Go.RowKit Sy
set_option maxRecDepth 100000
set_option maxHeartbeats 4000000
end Wr
end
section
namespace Wr
open Go.RowKit Sy
set_option maxRecDepth 100000
set_option maxHeartbeats 4000000
end Wr
end
section
namespace Wr
open Go.RowKit Sy
set_option maxRecDepth 100000
set_option maxHeartbeats 4000000
abbrev WB (gw:Nat) (bad:Bool) (s:Slc) (R:Blocks):Blocks:=[(gw,115,#[s.v,.bool bad])]++(s.bl++R)
theorem inWB {gw:Nat} {bad:Bool} {s:Slc} {R:Blocks} {x:Nat×TypeId×Array Value} (h:x∈R):x∈WB gw bad s R:=List.mem_append_right _ (List.mem_append_right _ h)
theorem dropW {w0:Base} {gw:Nat} {bad:Bool} {s:Slc} {R X:Blocks} {w:World} (h:St w0 w (WB gw bad s (R++X))):St w0 w (WB gw bad s R):=h.less ((List.Sublist.refl _).append ((List.Sublist.refl _).append (List.sublist_append_left _ _)))
def WRw (gw:Nat) (bad:Bool) (b x:Byt) (R:Blocks) (_:Value) (M:Blocks):Prop:=∃ r,BS r (b++x)∧M=WB gw bad r R
def Wd (gw:Nat) (R:Blocks) (ok:Bool) (e:Byt) (k:Nat) (bad:Bool) (b:Byt) (_:Value) (M:Blocks):Prop:=∃ s' bad' b',Wrote ok e k bad b bad' b'∧BS s' b'∧M=WB gw bad' s' R
theorem wrawW_any (w0:Base) (gw:Nat) (bad:Bool) (s:Slc) (R:Blocks) (b:Byt) (v:Value) (x:Byt) (hb:BS s b) (hx:BytR (rdC w0 R) v x) (hl:b.length+x.length≤70368744177664) (w:World) (hw:St w0 w (WB gw bad s R)) :
  Calls Tryz.prog 152 #[ptr gw,v] w (Turns w0 (WRw gw bad b x R)):=by
 have hx0:=hx
 obtain ⟨A,n,cp,rfl,h2,h3,h4,h5⟩:=hx
 refine Sy.enterT (args:=[ptr gw,.slice A n cp]) hw Tryz.func152 rfl kL ?_
 refine Sy.region ?_
 refine sp rfl<|sp rfl<|sp rfl<|sP (.pointer (some ⟨gw,0,none⟩))<|sS s.v (qc 0 0 rfl rfl Tryz.underlying29)<|sp rfl ?_
 refine Sy.appendM (pre:=[(gw,115,#[s.v,.bool bad])]) (T:=R) kR 29 5 _ _ 1 1 Tryz.underlying29 Cu.info_u8 rfl rfl rfl rfl (by decide) _ _ rfl hb kR (byL_one x) (byL_oneC x) A n cp (by rw [byL_len,h2]) h3 kR (λr=>BytR.from (w0:=w0.inn) hx0 (λy hy=>List.mem_append_right _ (List.mem_append_right _ hy))) (by rw [byL_len]; omega) (by rw [byL_len]; simp only [maxLen]; omega) (λr hr=>?_)
 have hr':BS r (b++x):=by show r.Is 5 1 _; rw [byL_app]; exact hr
 refine sp rfl<|sP (.pointer (some ⟨gw,0,none⟩))<|sw 0 rfl #[r.v,.bool bad] (Writes.one 0 29 r.v _ _ rfl kR kR kR hr.cells.1 hr.cells.2 (Nat.succ_pos _) kR) ?_
 refine Sy.nil ?_
 exact Sy.retT0 rfl (WB gw bad r R) (λ_ h=>h) (λ_=>⟨r,hr',rfl⟩)
theorem numW_any (w0:Base) (gw:Nat) (bad:Bool) (s:Slc) (R:Blocks) (b:Byt) (n k:Nat) (hn:n<18446744073709551616) (hk:k≤8) (hb:BS s b) (hl:b.length+8≤70368744177664) (w:World) (hw:St w0 w (WB gw bad s R)) :
  Calls Tryz.prog 95 #[ptr gw,.int .u64 (n:Int),.int .i64 (k:Int)] w (Turns w0 (WRw gw bad b (nb k n) R)):=by
 refine Sy.enterT (args:=[ptr gw,.int .u64 (n:Int),.int .i64 (k:Int)]) hw Tryz.func95 rfl kL ?_
 refine Sy.region ?_
 refine sp rfl<|sp rfl<|sp rfl ?_
 refine Sy.callN kR 58 #[.int .u64 (n:Int),.int .i64 (k:Int)] kF _ (λw' _=>numberR_any w' n k hn hk) (λu M hM=>?_)
 refine Sy.permS (M:=WB gw bad s (R++M)) (List.Perm.of_eq (by simp only [List.append_assoc])) ?_
 refine Sy.callT (λw hw=>wrawW_any w0.inn gw bad s (R++M) b u (nb k n) hb (hM.byt.le (λg o v h=>.inr (rdB_le (λx hx=>List.mem_append_right _ hx) g o v h))) (by rw [nb_len]; omega) w hw) (λv M2 hM2=>?_)
 obtain ⟨r,hr,rfl⟩:=hM2
 refine Sy.nil ?_
 exact Sy.retT0 rfl (WB gw bad r R) (λ_ h=>dropW h) (λ_=>⟨r,hr,rfl⟩)
theorem textD_any (w:World) (x:Byt) (hx:x.length=32):Calls Tryz.prog 83 #[.agg (x.map bv).toArray] w (GetsN w (ByN x)):=by
 have hxl:(x.map bv).length=32:=by rw [List.length_map,hx]
 refine Sy.enter (args:=[.agg (x.map bv).toArray]) Tryz.func83 rfl kL ?_
 refine sC ?_
 refine sM 28 (x.map bv).toArray (λg1=>?_) kR (λw=>run_boxR rfl rfl (by kernel_rfl) hxl w)
 refine sP (.slice none 0 0) ?_
 refine sA ?_
 refine sP (.slice none 0 0) ?_
 refine sG<|Sy.seq<|sC ?_
 refine sP (.int .i64 0) ?_
 refine sG<|Sy.block ?_
 refine Sy.loopT (Y:=Slc) 32 (λi y=>[(1,ptr g1),(3,y.v),(4,.int .i64 (i:Int))]) (λi y=>[(g1,28,(x.map bv).toArray)]++(y.bl++[])) (λi y=>BS y (x.take i)) nilS BS.nil (all_cons kR (all_cons kR (all_cons kR all_nil))) (λ_ h=>h) (λi r hi hs=>?_)
 dsimp only at hs ⊢
 refine Sy.seq<|sC ?_
 obtain ⟨b2,hb2⟩:∃ z:Bool,z=decide (i<32):=⟨_,rfl⟩
 refine sp rfl<|sS (.bool b2) (Quiet.pure (exec_int .lss _ _ _ .i64 _ _ _ rfl rfl rfl (int_lss _ _ _ _ _ (by rw [hb2]; exact decide_eq_decide.2 (by omega))))) ?_
 refine sG ?_
 cases b2
 case' false =>
  have l2:¬ i<32:=of_decide_eq_false hb2.symm
  obtain rfl:i=32:=by omega
  rw [List.take_of_length_le (by omega)] at hs
  refine sU<|Sy.exit<|Sy.then_exit<|Sy.then_exit<|Sy.in_exit<|Sy.then_<|sC ?_
  refine sp rfl<|sp rfl ?_
  refine sG<|Sy.ret ?_
  exact Sy.retGM r.bl rfl (.inl (show _=_ by kernel_rfl)) (λ_ h=>by rw [List.append_nil] at h; exact h.less (List.sublist_cons_self _ _)) hs.as
 have l2:i<32:=of_decide_eq_true hb2.symm
 obtain ⟨u,hu⟩:∃ u,x[i]? = some u:=⟨_,List.getElem?_eq_getElem (by omega)⟩
 refine sT<|Sy.skip<|Sy.then_<|Sy.seq<|Sy.block<|Sy.region ?_
 refine sp rfl<|sp rfl<|sS (.pointer (some ⟨g1,0+i*1,none⟩)) (Quiet.pure (exec_atA 28 _ _ _ g1 0 _ i 1 .i64 rfl rfl rfl Tryz.underlying28 kF l2))<|sS (bv u) (Quiet.cell 0 g1 (0+i*1) 28 5 (x.map bv).toArray _ _ rfl kR rfl Tryz.underlying5 rfl _ (by rw [Nat.zero_add,Nat.mul_one,List.getElem?_toArray,List.getElem?_map,hu]; rfl)) ?_
 refine Sy.make kR 5 #[bv u] (λg=>.slice (some ⟨g,0,none⟩) 1 1) kF (λg2=>?_)
 refine Sy.movT (pre:=[(g1,28,(x.map bv).toArray)]) (T:=r.bl++[]) ?_
 refine Sy.appendR (pre:=[(g1,28,(x.map bv).toArray),(g2,5,#[bv u])]) (T:=[]) kR 29 5 _ _ 1 1 Tryz.underlying29 Cu.info_u8 rfl rfl rfl rfl (by decide) _ _ rfl hs kR [bv u] rfl (λu hu=>by rw [List.mem_singleton.1 hu]; rfl) 1 g2 5 kR kR (by rw [byL_len,List.length_take]; omega) (by rw [byL_len,List.length_take]; simp only [maxLen]; omega) (λr' hr=>?_)
 refine sp rfl ?_
 refine Sy.nil<|Sy.in_<|Sy.then_<|Sy.region ?_
 refine sp rfl<|sS (.int .i64 ((i+1:Nat):Int)) (Quiet.pure (exec_int .add _ _ _ .i64 _ _ _ rfl rfl rfl (int_add _ _ _ _ _ ((wrap_i64 (by omega) (by omega)).trans (by omega)))))<|sp rfl ?_
 refine Sy.nil ?_
 have hr':BS r' (x.take (i+1)):=by
  show r'.Is 5 1 _
  rw [List.take_add_one,hu,show byL (x.take i++(some u).toList)=byL (x.take i)++[[bv u]] from byL_app _ _]
  exact hr
 exact Sy.againT r' l2 hr' (all_cons kR (all_cons kR (all_cons kR all_nil))) (λw h=>h.less ((List.sublist_cons_self (g2,5,#[bv u]) (r'.bl++[])).cons_cons (g1,28,(x.map bv).toArray)))
theorem digW_any (w0:Base) (gw:Nat) (bad:Bool) (s:Slc) (R:Blocks) (b:Byt) (x:Byt) (hx:x.length=32) (hb:BS s b) (hl:b.length+32≤70368744177664) (w:World) (hw:St w0 w (WB gw bad s R)) :
  Calls Tryz.prog 147 #[ptr gw,.agg (x.map bv).toArray] w (Turns w0 (WRw gw bad b x R)):=by
 have hxl:(x.map bv).length=32:=by rw [List.length_map,hx]
 refine Sy.enterT (args:=[ptr gw,.agg (x.map bv).toArray]) hw Tryz.func147 rfl kL ?_
 refine sC ?_
 refine sM 28 (x.map bv).toArray (λg3=>?_) kR (λw=>run_boxR rfl rfl (by kernel_rfl) hxl w)
 refine Sy.permS (M:=WB gw bad s (R++[(g3,28,(x.map bv).toArray)])) (List.Perm.of_eq (by simp only [List.append_assoc])) ?_
 refine Sy.nil<|Sy.then_<|Sy.region ?_
 refine sp rfl<|sS (.agg (x.map bv).toArray) (rowC (R:=[(g3,28,(x.map bv).toArray)]) (g:=g3) (f:=0) (k:=32) (cs:=x.map bv) (λi u hu=>.inr ⟨_,_,List.mem_singleton.2 rfl,by rw [Nat.zero_add,List.getElem?_toArray]; exact hu⟩) (λy hy=>inWB (List.mem_append_right R hy)) hxl rfl Tryz.underlying28) ?_
 refine Sy.callN kR 83 #[.agg (x.map bv).toArray] kF _ (λw' _=>textD_any w' x hx) (λu M hM=>?_)
 refine Sy.permS (M:=WB gw bad s (R++([(g3,28,(x.map bv).toArray)]++M))) (List.Perm.of_eq (by simp only [List.append_assoc])) ?_
 refine Sy.callT (λw hw=>wrawW_any w0.inn gw bad s (R++([(g3,28,(x.map bv).toArray)]++M)) b u x hb (hM.byt.le (λg o v h=>.inr (rdB_le (λy hy=>List.mem_append_right _ (List.mem_append_right _ hy)) g o v h))) (by omega) w hw) (λv M2 hM2=>?_)
 obtain ⟨r,hr,rfl⟩:=hM2
 refine Sy.nil ?_
 exact Sy.retT0 rfl (WB gw bad r R) (λ_ h=>dropW h) (λ_=>⟨r,hr,rfl⟩)
theorem mustW_any (w0:Base) (gw:Nat) (bad ok:Bool) (s:Slc) (R:Blocks) (w:World) (hw:St w0 w (WB gw bad s R)) :
  Calls Tryz.prog 151 #[ptr gw,.bool ok] w (Turns w0 (λ_ M=>M=WB gw (bad || !ok) s R)):=by
 refine Sy.enterT (args:=[ptr gw,.bool ok]) hw Tryz.func151 rfl kL ?_
 refine sC ?_
 refine sp rfl<|sP (.bool (!ok)) ?_
 refine sG ?_
 cases ok
 ·rw [show (bad || !false)=true by cases bad <;> rfl]
  refine sT<|Sy.region ?_
  refine sp rfl<|sp rfl<|sP (.pointer (some ⟨gw,1,none⟩))<|sw 0 rfl #[s.v,.bool true] (wO 1 4 (.bool true) rfl) ?_
  refine Sy.nil ?_
  exact Sy.retT0 (R:=λ_ M=>M=WB gw true s R) rfl (WB gw true s R) (λ_ h=>h) (λ_=>rfl)
 ·rw [show (bad || !true)=bad by cases bad <;> rfl]
  refine sU<|Sy.skip ?_
  exact Sy.retT0 (R:=λ_ M=>M=WB gw bad s R) rfl (WB gw bad s R) (λ_ h=>h) (λ_=>rfl)
theorem manyW_any (w0:Base) (gw:Nat) (bad:Bool) (s:Slc) (R:Blocks) (b:Byt) (n most:Nat) (hn:n≤1000000000000) (hm:most≤1000000) (hb:BS s b) (hl:b.length+9≤70368744177664) (w:World) (hw:St w0 w (WB gw bad s R)) :
  Calls Tryz.prog 96 #[ptr gw,.int .i64 (n:Int),.int .i64 (most:Int)] w (Turns w0 (Wd gw R (decide (n≤most)) (varB n) 9 bad b)):=by
 refine Sy.enterT (args:=[ptr gw,.int .i64 (n:Int),.int .i64 (most:Int)]) hw Tryz.func96 rfl kL ?_
 refine sC ?_
 obtain ⟨ok,hok⟩:∃ z:Bool,z=decide (n≤most):=⟨_,rfl⟩
 rw [← hok]
 refine sp rfl<|sp rfl<|sp rfl<|sS (.bool ok) (Quiet.pure (exec_int .leq _ _ _ .i64 _ _ _ rfl rfl rfl (int_leq _ _ _ _ _ (by rw [hok]; exact decide_eq_decide.2 (by omega))))) ?_
 refine Sy.callT (λw hw=>mustW_any w0.inn gw bad ok s R w hw) (λv M hM=>?_)
 subst hM
 refine Sy.nil<|Sy.then_<|Sy.region ?_
 refine sp rfl<|sp rfl<|sS (.int .u64 (n:Int)) (Quiet.pure (λw=>conv_i6 w _ _ _ n (by omega) rfl rfl)) ?_
 refine Sy.callN kR 153 #[.int .u64 (n:Int)] kF _ (λw' _=>varR_any w' n (by omega)) (λu M hM=>?_)
 refine Sy.permS (M:=WB gw (bad || !ok) s (R++M)) (List.Perm.of_eq (by simp only [List.append_assoc])) ?_
 have hvl:=varB_len n
 refine Sy.callT (λw hw=>wrawW_any w0.inn gw (bad || !ok) s (R++M) b u (varB n) hb (hM.byt.le (λg o v h=>.inr (rdB_le (λx hx=>List.mem_append_right _ hx) g o v h))) (by omega) w hw) (λv M2 hM2=>?_)
 obtain ⟨r,hr,rfl⟩:=hM2
 refine Sy.nil ?_
 have q:=(Wrote.must ok bad b).then_ (Wrote.raw (varB n) (bad || !ok) b hvl)
 rw [Bool.and_true] at q
 exact Sy.retT0 rfl (WB gw (bad || !ok) r R) (λ_ h=>dropW h) (λ_=>⟨r,bad || !ok,b++varB n,q,hr,rfl⟩)
theorem doneW_any (w0:Base) (gw:Nat) (bad:Bool) (s:Slc) (R:Blocks) (w:World) (hw:St w0 w (WB gw bad s R)) :
  Calls Tryz.prog 54 #[ptr gw] w (Turns w0 (λv M=>v=(if bad=true then .tuple #[.slice none 0 0,.int .i64 120] else .tuple #[s.v,.int .i64 0])∧M=WB gw bad s R)):=by
 refine Sy.enterT (args:=[ptr gw]) hw Tryz.func54 rfl kL ?_
 refine sC ?_
 refine sP (.slice none 0 0)<|sP (.int .i64 0) ?_
 refine sG<|Sy.seq<|sC ?_
 refine sp rfl<|sp rfl<|sP (.pointer (some ⟨gw,1,none⟩))<|sS (.bool bad) (qc 0 1 rfl rfl Tryz.underlying4) ?_
 refine sG ?_
 cases bad
 ·rw [if_neg (by decide)]
  refine sU<|Sy.skip<|sB ?_
  refine sp rfl<|sp rfl<|sP (.pointer (some ⟨gw,0,none⟩))<|sS s.v (qc 0 0 rfl rfl Tryz.underlying29)<|sp rfl<|sP (.int .i64 0) ?_
  refine sG<|Sy.ret ?_
  exact Sy.retT2 (WB gw false s R) rfl (.inl (show _=_ by kernel_rfl)) (.inl (show _=_ by kernel_rfl)) (λ_ h=>h) ⟨rfl,rfl⟩
 ·rw [if_pos rfl]
  refine sT<|sC ?_
  refine sP (.slice none 0 0)<|sP (.int .i64 120) ?_
  refine sG<|Sy.ret<|Sy.then_ret ?_
  exact Sy.retT2 (WB gw true s R) rfl (.inl (show _=_ by kernel_rfl)) (.inl (show _=_ by kernel_rfl)) (λ_ h=>h) ⟨rfl,rfl⟩
theorem mhdW_any (w0:Base) (gw:Nat) (bad:Bool) (s:Slc) (R:Blocks) (b:Byt) (h:MHd) (h1:h.prev.length=32) (h2:h.root.length=32) (h3:h.height<18446744073709551616) (h4:h.nonce<18446744073709551616) (hb:BS s b) (hl:b.length+80≤70368744177664) (w:World) (hw:St w0 w (WB gw bad s R)) :
  Calls Tryz.prog 90 #[ptr gw,.agg (h.prev.map bv++(h.root.map bv++[Value.int .u64 (h.height:Int),Value.int .u64 (h.nonce:Int)])).toArray] w (Turns w0 (WRw gw bad b (encMH h) R)):=by
 obtain ⟨cs,hcs⟩:∃ cs,cs=h.prev.map bv++(h.root.map bv++[Value.int .u64 (h.height:Int),.int .u64 (h.nonce:Int)]):=⟨_,rfl⟩
 have m1:(h.prev.map bv).length=32:=by rw [List.length_map,h1]
 have m2:(h.root.map bv).length=32:=by rw [List.length_map,h2]
 have hlen:cs.length=66:=by rw [hcs,List.length_append,List.length_append,m1,m2]; rfl
 rw [← hcs]
 refine Sy.enterT (args:=[ptr gw,.agg cs.toArray]) hw Tryz.func90 rfl kL ?_
 refine sC ?_
 refine sM 54 cs.toArray (λg3=>?_) kR (λw=>run_boxR rfl rfl (by kernel_rfl) hlen w)
 refine Sy.permS (M:=WB gw bad s (R++[(g3,54,cs.toArray)])) (List.Perm.of_eq (by simp only [List.append_assoc])) ?_
 have hX0:∀ l,l=cs→XAt (rdC w0.inn [(g3,54,cs.toArray)]) g3 0 l:=λl e i u hu=>.inr ⟨_,_,List.mem_singleton.2 rfl,by rw [Nat.zero_add,List.getElem?_toArray, ← e]; exact hu⟩
 have hX:=hX0 _ hcs.symm
 have hX1:=hX.left
 have hX2:=(hX.right m1).left
 have hX3:=((hX.right m1).right m2).one
 have hX4:=((hX.right m1).right m2).tail.one
 refine sA ?_
 refine sp rfl<|sP (.pointer (some ⟨g3,0,none⟩))<|sS (.agg (h.prev.map bv).toArray) (rowC (R:=[(g3,54,cs.toArray)]) (g:=g3) (f:=0) (k:=32) (cs:=h.prev.map bv) hX1 (λy hy=>inWB (List.mem_append_right R hy)) m1 rfl Tryz.underlying28) ?_
 refine Sy.callT (λw hw=>digW_any w0.inn gw bad s (R++[(g3,54,cs.toArray)]) b h.prev h1 hb (by omega) w hw) (λv M hM=>?_)
 obtain ⟨r1,hr1,rfl⟩:=hM
 refine sA ?_
 refine sp rfl<|sP (.pointer (some ⟨g3,0+32,none⟩))<|sS (.agg (h.root.map bv).toArray) (rowC (R:=[(g3,54,cs.toArray)]) (g:=g3) (f:=0+32) (k:=32) (cs:=h.root.map bv) hX2 (λy hy=>inWB (List.mem_append_right R hy)) m2 rfl Tryz.underlying28) ?_
 refine Sy.callT (λw hw=>digW_any w0.inn gw bad r1 (R++[(g3,54,cs.toArray)]) (b++h.prev) h.root h2 hr1 (by rw [List.length_append]; omega) w hw) (λv M hM=>?_)
 obtain ⟨r2,hr2,rfl⟩:=hM
 refine sA ?_
 refine sp rfl<|sP (.pointer (some ⟨g3,0+32+32,none⟩))<|sS (.int .u64 (h.height:Int)) (cellC (R:=[(g3,54,cs.toArray)]) (g:=g3) (f:=0+32+32) hX3 (λy hy=>inWB (List.mem_append_right R hy)) rfl Tryz.underlying22) ?_
 refine Sy.callT (λw hw=>numW_any w0.inn gw bad r2 (R++[(g3,54,cs.toArray)]) (b++h.prev++h.root) h.height 8 h3 (by decide) hr2 (by rw [List.length_append,List.length_append]; omega) w hw) (λv M hM=>?_)
 obtain ⟨r3,hr3,rfl⟩:=hM
 refine Sy.nil<|Sy.then_<|Sy.region ?_
 refine sp rfl<|sP (.pointer (some ⟨g3,0+32+32+1,none⟩))<|sS (.int .u64 (h.nonce:Int)) (cellC (R:=[(g3,54,cs.toArray)]) (g:=g3) (f:=0+32+32+1) hX4 (λy hy=>inWB (List.mem_append_right R hy)) rfl Tryz.underlying22) ?_
 refine Sy.callT (λw hw=>numW_any w0.inn gw bad r3 (R++[(g3,54,cs.toArray)]) (b++h.prev++h.root++nb 8 h.height) h.nonce 8 h4 (by decide) hr3 (by rw [List.length_append,List.length_append,List.length_append,nb_len]; omega) w hw) (λv M hM=>?_)
 obtain ⟨r4,hr4,rfl⟩:=hM
 refine Sy.nil ?_
 have e:b++encMH h=b++h.prev++h.root++nb 8 h.height++nb 8 h.nonce:=by unfold encMH; simp only [List.append_assoc]
 exact Sy.retT0 rfl (WB gw bad r4 R) (λ_ h=>dropW h) (λ_=>⟨r4,by rw [e]; exact hr4,rfl⟩)
end Wr
end
section
namespace Wr
open Go.RowKit Sy
set_option maxRecDepth 100000
set_option maxHeartbeats 4000000
theorem encMO_len {o:MOut} (h:o.claim.length=32):(encMO o).length=40:=by unfold encMO; rw [List.length_append,nb_len,h]
theorem flat_mo {l:List MOut} (h:∀ o∈l,o.claim.length=32):(l.flatMap encMO).length=40*l.length:=by
 induction l with
 | nil=>rfl
 | cons o l ih=>rw [List.flatMap_cons,List.length_append,encMO_len (h o (List.mem_cons_self ..)),ih (λx hx=>h x (List.mem_cons_of_mem _ hx)),List.length_cons]; omega
theorem sum_40 (l:List MOut):(l.map λ_=>40).sum=40*l.length:=by
 induction l with
 | nil=>rfl
 | cons o l ih=>rw [List.map_cons,List.sum_cons,ih,List.length_cons]; omega
theorem lst_all {α:Type} {C:Rdr} {k:Nat} {rep:Rdr→List Value→α→Prop} {v:Value} {l:List α} {q:α→Prop} (h:LstR C k rep v l) (hq:∀ cs x,rep C cs x→q x):∀ x∈l,q x:=by
 obtain ⟨A,n,cp,rfl,h2,h3,h4,h5⟩:=h
 intro x hx
 obtain ⟨g,o,rfl,h6⟩:=h5 (List.ne_nil_of_mem hx)
 obtain ⟨j,hj⟩:=List.getElem?_of_mem hx
 obtain ⟨cs,_,_,q3,_⟩:=h6 j x hj
 exact hq cs x q3
theorem mtxW_any (w0:Base) (gw:Nat) (bad:Bool) (s:Slc) (R:Blocks) (b:Byt) (t:MTx) (v:Value) (h1:t.nonce<18446744073709551616) (h2:LstR (rdW w0.world) 33 repMO v t.outs) (hb:BS s b) (hlo:t.outs.length≤1000000000000) (hl:b.length+wtMT t≤70368744170000) (w:World) (hw:St w0 w (WB gw bad s R)) :
  Calls Tryz.prog 94 #[ptr gw,.agg #[.int .u64 (t.nonce:Int),v]] w (Turns w0 (Wd gw R (okMT t) (encMT t) (wtMT t) bad b)):=by
 have hcl:∀ o∈t.outs,o.claim.length=32:=lst_all (q:=λo:MOut=>o.claim.length=32) h2 (λcs x h=>h.2.2)
 obtain ⟨A,n,cp,rfl,k2,k3,k4,k5⟩:=h2
 have hwt:wtMT t=8+(9+40*t.outs.length):=by unfold wtMT; rw [sum_40]
 rw [hwt] at hl
 refine Sy.enterT (args:=[ptr gw,.agg #[.int .u64 (t.nonce:Int),.slice A n cp]]) hw Tryz.func94 rfl kL ?_
 refine sC ?_
 refine sM 61 #[.int .u64 (t.nonce:Int),.slice A n cp] (λg3=>?_)
 refine Sy.permS (M:=WB gw bad s (R++[(g3,61,#[.int .u64 (t.nonce:Int),.slice A n cp])])) (List.Perm.of_eq (by simp only [List.append_assoc])) ?_
 have c0:rdC w0.inn [(g3,61,#[.int .u64 (t.nonce:Int),.slice A n cp])] g3 0 (.int .u64 (t.nonce:Int)):=.inr ⟨_,_,List.mem_singleton.2 rfl,rfl⟩
 have c1:rdC w0.inn [(g3,61,#[.int .u64 (t.nonce:Int),.slice A n cp])] g3 1 (.slice A n cp):=.inr ⟨_,_,List.mem_singleton.2 rfl,rfl⟩
 refine sA ?_
 refine sp rfl<|sP (.pointer (some ⟨g3,0,none⟩))<|sS (.int .u64 (t.nonce:Int)) (cellC (R:=[(g3,61,#[.int .u64 (t.nonce:Int),.slice A n cp])]) c0 (λy hy=>inWB (List.mem_append_right R hy)) rfl Tryz.underlying22) ?_
 refine Sy.callT (λw hw=>numW_any w0.inn gw bad s (R++[(g3,61,#[.int .u64 (t.nonce:Int),.slice A n cp])]) b t.nonce 8 h1 (by decide) hb (by omega) w hw) (λv M hM=>?_)
 obtain ⟨r1,hr1,rfl⟩:=hM
 have hl1:(b++nb 8 t.nonce).length=b.length+8:=by rw [List.length_append,nb_len]
 refine sA ?_
 refine sp rfl<|sP (.pointer (some ⟨g3,1,none⟩))<|sS (.slice A n cp) (cellC (R:=[(g3,61,#[.int .u64 (t.nonce:Int),.slice A n cp])]) c1 (λy hy=>inWB (List.mem_append_right R hy)) rfl Tryz.underlying59)<|sP (.int .i64 (n:Int)) ?_
 refine Sy.callT (λw hw=>manyW_any w0.inn gw bad r1 (R++[(g3,61,#[.int .u64 (t.nonce:Int),.slice A n cp])]) (b++nb 8 t.nonce) n 16 (by omega) (by decide) hr1 (by omega) w hw) (λv M hM=>?_)
 obtain ⟨s2,bad2,b2,q1,q2,rfl⟩:=hM
 have hl2:=q1.len
 refine sA ?_
 refine sP (.int .i64 0) ?_
 refine sG<|Sy.block ?_
 refine Sy.loopT (Y:=Slc) n (λi _=>[(0,ptr gw),(3,ptr g3),(4,.int .i64 (i:Int))]) (λ_ y=>WB gw bad2 y (R++[(g3,61,#[.int .u64 (t.nonce:Int),.slice A n cp])])) (λi y=>BS y (b2++(t.outs.take i).flatMap encMO)) s2 (by show BS s2 (b2++[]); rw [List.append_nil]; exact q2) (all_cons kR (all_cons kR (all_cons kR all_nil))) (λ_ h=>h) (λi y hi hy=>?_)
 refine Sy.seq<|sC ?_
 obtain ⟨b3,hb3⟩:∃ z:Bool,z=decide (i<n):=⟨_,rfl⟩
 refine sp rfl<|sP (.pointer (some ⟨g3,1,none⟩))<|sS (.slice A n cp) (cellC (R:=[(g3,61,#[.int .u64 (t.nonce:Int),.slice A n cp])]) c1 (λy hy=>inWB (List.mem_append_right R hy)) rfl Tryz.underlying59)<|sP (.int .i64 (n:Int))<|sS (.bool b3) (Quiet.pure (exec_int .lss _ _ _ .i64 _ _ _ rfl rfl rfl (int_lss _ _ _ _ _ (by rw [hb3]; exact decide_eq_decide.2 (by omega))))) ?_
 refine sG ?_
 have htl:((t.outs.take i).flatMap encMO).length≤40*i:=by
  rw [flat_mo (λo ho=>hcl o (List.mem_of_mem_take ho)),List.length_take]; omega
 cases b3
 case' false =>
  have l3:¬ i<n:=of_decide_eq_false hb3.symm
  obtain rfl:i=n:=by omega
  rw [List.take_of_length_le (by omega)] at hy
  refine sU<|Sy.exit<|Sy.then_exit<|Sy.then_exit<|Sy.in_exit ?_
  have q:=(Wrote.raw (nb 8 t.nonce) bad b (k:=8) (by rw [nb_len]; exact Nat.le_refl _)).then_ (q1.then_ (Wrote.raw (t.outs.flatMap encMO) bad2 b2 (k:=40*t.outs.length) (by rw [flat_mo hcl]; exact Nat.le_refl _)))
  rw [Bool.true_and,Bool.and_true, ← k2] at q
  rw [hwt]
  exact Sy.retT0 rfl (WB gw bad2 y R) (λ_ h=>dropW h) (λ_=>⟨y,bad2,_,q,hy,rfl⟩)
 have l3:i<n:=of_decide_eq_true hb3.symm
 obtain ⟨x,hx⟩:∃ x,t.outs[i]? = some x:=⟨_,List.getElem?_eq_getElem (by omega)⟩
 obtain ⟨g,o,hA,hq⟩:=k5 (by intro e; rw [e] at hx; cases hx)
 obtain ⟨cs,_,_,⟨rfl,x2,x3⟩,hX⟩:=hq i x hx
 have d0:rdC w0.inn [] g (o+i*33) (.int .u64 (x.value:Int)):=.inl hX.one
 have d1:XAt (rdC w0.inn []) g (o+i*33+1) (x.claim.map bv):=λj u hu=>.inl (hX.tail j u hu)
 have m1:(x.claim.map bv).length=32:=by rw [List.length_map,x3]
 have hyl:(b2++(t.outs.take i).flatMap encMO).length≤b2.length+40*i:=by rw [List.length_append]; omega
 refine sT<|Sy.skip<|Sy.then_<|Sy.seq<|Sy.block<|sC ?_
 refine sp rfl<|sP (.pointer (some ⟨g3,1,none⟩))<|sS (.slice A n cp) (cellC (R:=[(g3,61,#[.int .u64 (t.nonce:Int),.slice A n cp])]) c1 (λy hy=>inWB (List.mem_append_right R hy)) rfl Tryz.underlying59)<|sp rfl<|sS (.pointer (some ⟨g,o+i*33,none⟩)) (Quiet.pure (exec_atO 59 _ _ _ A g o n cp i 33 .i64 hA rfl rfl rfl Tryz.underlying59 kF l3))<|sP (.pointer (some ⟨g,o+i*33,none⟩))<|sS (.int .u64 (x.value:Int)) (cellC (R:=[]) d0 (λy hy=>by cases hy) rfl Tryz.underlying22) ?_
 refine Sy.callT (λw hw=>numW_any w0.inn gw bad2 y (R++[(g3,61,#[.int .u64 (t.nonce:Int),.slice A n cp])]) _ x.value 8 x2 (by decide) hy (by omega) w hw) (λv M hM=>?_)
 obtain ⟨r4,hr4,rfl⟩:=hM
 refine Sy.nil<|Sy.then_<|Sy.region ?_
 refine sp rfl<|sP (.pointer (some ⟨g3,1,none⟩))<|sS (.slice A n cp) (cellC (R:=[(g3,61,#[.int .u64 (t.nonce:Int),.slice A n cp])]) c1 (λy hy=>inWB (List.mem_append_right R hy)) rfl Tryz.underlying59)<|sp rfl<|sS (.pointer (some ⟨g,o+i*33,none⟩)) (Quiet.pure (exec_atO 59 _ _ _ A g o n cp i 33 .i64 hA rfl rfl rfl Tryz.underlying59 kF l3))<|sP (.pointer (some ⟨g,o+i*33+1,none⟩))<|sS (.agg (x.claim.map bv).toArray) (rowC (R:=[]) d1 (λy hy=>by cases hy) m1 rfl Tryz.underlying28) ?_
 refine Sy.callT (λw hw=>digW_any w0.inn gw bad2 r4 (R++[(g3,61,#[.int .u64 (t.nonce:Int),.slice A n cp])]) _ x.claim x3 hr4 (by rw [List.length_append,nb_len]; omega) w hw) (λv M hM=>?_)
 obtain ⟨r5,hr5,rfl⟩:=hM
 refine Sy.nil<|Sy.in_<|Sy.then_<|Sy.region ?_
 refine sp rfl<|sS (.int .i64 ((i+1:Nat):Int)) (Quiet.pure (exec_int .add _ _ _ .i64 _ _ _ rfl rfl rfl (int_add _ _ _ _ _ ((wrap_i64 (by omega) (by omega)).trans (by omega)))))<|sp rfl ?_
 refine Sy.nil ?_
 have e:b2++(t.outs.take (i+1)).flatMap encMO=b2++(t.outs.take i).flatMap encMO++nb 8 x.value++x.claim:=by
  rw [List.take_add_one,hx,List.flatMap_append]
  show b2++((t.outs.take i).flatMap encMO++((nb 8 x.value++x.claim)++[]))=_
  simp only [List.append_assoc,List.append_nil]
 exact Sy.againT r5 l3 (by show BS r5 (b2++(t.outs.take (i+1)).flatMap encMO); rw [e]; exact hr5) (all_cons kR (all_cons kR (all_cons kR all_nil))) (λw h=>h)
theorem mtxR_w (w:World) (t:MTx) (v:Value) (h1:t.nonce<18446744073709551616) (h2:LstR (rdW w) 33 repMO v t.outs) (hlo:t.outs.length≤1000000000) :
  Calls Tryz.prog 52 #[.agg #[.int .u64 (t.nonce:Int),v]] w (GetsN w (BytE (okMT t) (encMT t))):=by
 have h20:=h2
 obtain ⟨A,n,cp,rfl,k2,k3,k4,k5⟩:=h2
 have hwt:wtMT t≤70368744160000:=by unfold wtMT; rw [sum_40]; omega
 refine Sy.enter (args:=[.agg #[.int .u64 (t.nonce:Int),.slice A n cp]]) Tryz.func52 rfl kL ?_
 refine sC ?_
 refine sM 61 #[.int .u64 (t.nonce:Int),.slice A n cp] (λg1=>?_)
 refine sP (.slice none 0 0)<|sP (.int .i64 0) ?_
 refine sA ?_
 refine sP (.agg #[.slice none 0 0,.bool false])<|sM 115 #[.slice none 0 0,.bool false] (λgw=>?_)
 refine sp rfl ?_
 refine sA ?_
 refine Sy.permS (M:=WB gw false nilS [(g1,61,#[.int .u64 (t.nonce:Int),.slice A n cp])]) (Sy.perm_at [1,0] (by kernel_rfl) (by rfl)) ?_
 refine sp rfl<|sS (.agg #[.int .u64 (t.nonce:Int),.slice A n cp]) (qk 1 0 2 rfl rfl Tryz.underlying61) ?_
 refine Sy.callT (λw' hw=>mtxW_any (Base.of w) gw false nilS [(g1,61,#[.int .u64 (t.nonce:Int),.slice A n cp])] [] t (.slice A n cp) h1 h20 BS.nil (by omega) (by show 0+_≤_; omega) w' hw) (λu M hM=>?_)
 obtain ⟨s',bad,b',q1,q2,rfl⟩:=hM
 have qb:=q1.bad
 refine sA ?_
 refine sp rfl ?_
 refine Sy.callT (λw' hw=>doneW_any (Base.of w) gw bad s' [(g1,61,#[.int .u64 (t.nonce:Int),.slice A n cp])] w' hw) (λu M hM=>?_)
 obtain ⟨rfl,rfl⟩:=hM
 cases bad
 ·have hok:okMT t=true:=by
   cases h:okMT t with
   | true=>rfl
   | false=>rw [h] at qb; cases qb
  have hbb:b'=encMT t:=q1.bytes rfl
  rw [if_neg (by decide)]
  refine sp rfl<|sp rfl<|sp rfl<|sp rfl ?_
  refine sG<|Sy.ret ?_
  exact Sy.retGM2 s'.bl rfl (.inl (show _=_ by kernel_rfl)) (.inl (show _=_ by kernel_rfl)) (λ_ h=>h.less ((List.sublist_append_left _ _).trans (List.sublist_append_right _ _))) (.inl ⟨hok,_,rfl,by rw [← hbb]; exact q2.as⟩)
 ·have hok:okMT t=false:=by
   cases h:okMT t with
   | false=>rfl
   | true=>rw [h] at qb; cases qb
  rw [if_pos rfl]
  refine sp rfl<|sp rfl<|sp rfl<|sp rfl ?_
  refine sG<|Sy.ret ?_
  exact Sy.retGM2 [] rfl (.inl (show _=_ by kernel_rfl)) (.inl (show _=_ by kernel_rfl)) (λ_ h=>h.none) (.inr ⟨hok,rfl,rfl⟩)
theorem mhdR_w (w:World) (h:MHd) (h1:h.prev.length=32) (h2:h.root.length=32) (h3:h.height<18446744073709551616) (h4:h.nonce<18446744073709551616) :
  Calls Tryz.prog 49 #[.agg (h.prev.map bv++(h.root.map bv++[Value.int .u64 (h.height:Int),Value.int .u64 (h.nonce:Int)])).toArray] w (GetsN w (ByN (encMH h))):=by
 obtain ⟨cs,hcs⟩:∃ cs,cs=h.prev.map bv++(h.root.map bv++[Value.int .u64 (h.height:Int),Value.int .u64 (h.nonce:Int)]):=⟨_,rfl⟩
 have hlen:cs.length=66:=by rw [hcs]; simp [h1,h2]
 have hw1:=λ(w':World) (gw g1:Nat) (hw:St (Base.of w) w' (WB gw false nilS [(g1,54,cs.toArray)]))=>mhdW_any (Base.of w) gw false nilS [(g1,54,cs.toArray)] [] h h1 h2 h3 h4 BS.nil (by decide) w' hw
 rw [← hcs] at hw1 ⊢
 refine Sy.enter (args:=[.agg cs.toArray]) Tryz.func49 rfl kL ?_
 refine sC ?_
 refine sM 54 cs.toArray (λg1=>?_) kR (λw=>run_boxR rfl rfl (by kernel_rfl) hlen w)
 refine sP (.slice none 0 0) ?_
 refine sA ?_
 refine sP (.agg #[.slice none 0 0,.bool false])<|sM 115 #[.slice none 0 0,.bool false] (λgw=>?_)
 refine sp rfl ?_
 refine sA ?_
 refine Sy.permS (M:=WB gw false nilS [(g1,54,cs.toArray)]) (Sy.perm_at [1,0] (by kernel_rfl) (by rfl)) ?_
 refine sp rfl<|sS (.agg cs.toArray) (Quiet.mid 1 g1 0 66 54 54 cs cs _ _ rfl kR rfl Tryz.underlying54 rfl kR (by rw [List.drop_zero,List.take_of_length_le (by omega)]) (by omega)) ?_
 refine Sy.callT (λw' hw=>hw1 w' gw g1 hw) (λu M hM=>?_)
 obtain ⟨r,hr,rfl⟩:=hM
 have hr':BS r (encMH h):=hr
 refine sA ?_
 refine sp rfl<|sp rfl<|sP (.pointer (some ⟨gw,0,none⟩))<|sS r.v (qc 0 0 rfl rfl Tryz.underlying29)<|sp rfl ?_
 refine sG<|Sy.ret ?_
 exact Sy.retGM r.bl rfl (.inl (show _=_ by kernel_rfl)) (λ_ h=>h.less ((List.sublist_append_left _ _).trans (List.sublist_append_right _ _))) hr'.as
end Wr
end
section
namespace Wr
open Go.RowKit Sy
set_option maxRecDepth 100000
set_option maxHeartbeats 4000000
def okS (lo hi:Nat) (z:Int):Bool:=decide ((lo:Int)≤z) && decide (z≤(hi:Int))
theorem smallW_any (w0:Base) (gw:Nat) (bad:Bool) (s:Slc) (R:Blocks) (b:Byt) (lo hi:Nat) (z:Int) (hb:BS s b) (hl:b.length+1≤70368744177664) (w:World) (hw:St w0 w (WB gw bad s R)) :
  Calls Tryz.prog 154 #[ptr gw,.int .i64 z,.int .i64 (lo:Int),.int .i64 (hi:Int)] w (Turns w0 (Wd gw R (okS lo hi z) [octB z] 1 bad b)):=by
 refine Sy.enterT (args:=[ptr gw,.int .i64 z,.int .i64 (lo:Int),.int .i64 (hi:Int)]) hw Tryz.func154 rfl kL ?_
 obtain ⟨ok,hok⟩:∃ ok,ok=okS lo hi z:=⟨_,rfl⟩
 obtain ⟨b1,hb1⟩:∃ b1:Bool,b1=decide ((lo:Int)≤z):=⟨_,rfl⟩
 obtain ⟨b2,hb2⟩:∃ b2:Bool,b2=decide (z≤(hi:Int)):=⟨_,rfl⟩
 have e:ok=(b1 && b2):=by rw [hok,hb1,hb2]; rfl
 rw [← hok]
 refine Sy.seq ?_
 refine cutC [(0,ptr gw),(1,.int .i64 z)] (WB gw (bad || !ok) s R) ?_ ?_
 ·refine Sy.region ?_
  refine sp rfl<|sp rfl<|sp rfl<|sS (.bool b1) (Quiet.pure (exec_int .geq _ _ _ .i64 _ _ _ rfl rfl rfl (int_geq _ _ _ _ _ (by rw [hb1]))))<|sp rfl ?_
  cases b1
  case' false =>
   obtain rfl:ok=false:=e
   refine sN<|sN<|sN<|sP (.bool false) ?_
   refine Sy.callT (λw hw=>mustW_any w0.inn gw bad false s R w hw) (λu M hM=>?_)
  case' true =>
   obtain rfl:ok=b2:=e
   refine sp rfl<|sp rfl<|sS (.bool ok) (Quiet.pure (exec_int .leq _ _ _ .i64 _ _ _ rfl rfl rfl (int_leq _ _ _ _ _ (by rw [hb2]))))<|sP (.bool ok) ?_
   refine Sy.callT (λw hw=>mustW_any w0.inn gw bad ok s R w hw) (λu M hM=>?_)
  all_goals
   subst hM
   refine Sy.nil ?_
   exact meet (all_cons kR (all_cons kR all_nil)) (λ_ h=>h)
 refine Sy.then_<|Sy.region ?_
 refine sp rfl<|sp rfl<|sS (bv (octB z)) (Quiet.pure (λw=>conv_i8 w _ _ _ z rfl rfl)) ?_
 refine Sy.make kR 5 #[bv (octB z)] (λg=>.slice (some ⟨g,0,none⟩) 1 1) kF (λg1=>?_)
 refine Sy.permS (M:=WB gw (bad || !ok) s (R++[(g1,5,#[bv (octB z)])])) (List.Perm.of_eq (by simp only [List.append_assoc])) ?_
 refine Sy.callT (λw hw=>wrawW_any w0.inn gw (bad || !ok) s (R++[(g1,5,#[bv (octB z)])]) b (.slice (some ⟨g1,0,none⟩) 1 1) [octB z] hb ⟨_,_,_,rfl,rfl,Nat.le_refl _,by decide,λ_=>⟨g1,0,rfl,λj u hj=>.inr ⟨5,#[bv (octB z)],List.mem_append_right _ (List.mem_singleton.2 rfl),by
  cases j with
  | zero=>cases hj; rfl
  | succ j=>cases hj⟩⟩⟩ (by show _+1≤_; omega) w hw) (λv M hM=>?_)
 obtain ⟨r,hr,rfl⟩:=hM
 refine Sy.nil ?_
 have q:=(Wrote.must ok bad b).then_ (Wrote.raw [octB z] (bad || !ok) b (k:=1) (Nat.le_refl _))
 rw [Bool.and_true] at q
 exact Sy.retT0 rfl (WB gw (bad || !ok) r R) (λ_ h=>dropW h) (λ_=>⟨r,bad || !ok,b++[octB z],q,hr,rfl⟩)
end Wr
end
section
namespace Wr
open Go.RowKit Sy
set_option maxRecDepth 100000
set_option maxHeartbeats 4000000
theorem flat_key {l:List Byt} (h:∀ o∈l,o.length=32):(l.flatMap λk=>k).length=32*l.length:=by
 induction l with
 | nil=>rfl
 | cons o l ih=>rw [List.flatMap_cons,List.length_append,h o (List.mem_cons_self ..),ih (λx hx=>h x (List.mem_cons_of_mem _ hx)),List.length_cons]; omega
theorem sum_32 (l:List Byt):(l.map λ_=>32).sum=32*l.length:=by
 induction l with
 | nil=>rfl
 | cons o l ih=>rw [List.map_cons,List.sum_cons,ih,List.length_cons]; omega
theorem parW_any (w0:Base) (gw:Nat) (bad:Bool) (s:Slc) (R:Blocks) (b:Byt) (t:MPa) (v:Value) (h2:LstR (rdW w0.world) 32 repDG v t.keys) (hb:BS s b) (hlo:t.keys.length≤1000000000000) (hl:b.length+wtPA t≤70368744170000) (w:World) (hw:St w0 w (WB gw bad s R)) :
  Calls Tryz.prog 150 #[ptr gw,.agg #[.int .i64 t.t,v]] w (Turns w0 (Wd gw R (okPA t) (encPA t) (wtPA t) bad b)):=by
 have hcl:∀ o∈t.keys,o.length=32:=lst_all (q:=λo:Byt=>o.length=32) h2 (λcs x h=>h.2)
 obtain ⟨A,n,cp,rfl,k2,k3,k4,k5⟩:=h2
 have hwt:wtPA t=1+(9+32*t.keys.length):=by unfold wtPA; rw [sum_32]
 rw [hwt] at hl
 refine Sy.enterT (args:=[ptr gw,.agg #[.int .i64 t.t,.slice A n cp]]) hw Tryz.func150 rfl kL ?_
 refine sC ?_
 refine sM 32 #[.int .i64 t.t,.slice A n cp] (λg3=>?_)
 refine Sy.permS (M:=WB gw bad s (R++[(g3,32,#[.int .i64 t.t,.slice A n cp])])) (List.Perm.of_eq (by simp only [List.append_assoc])) ?_
 have c0:rdC w0.inn [(g3,32,#[.int .i64 t.t,.slice A n cp])] g3 0 (.int .i64 t.t):=.inr ⟨_,_,List.mem_singleton.2 rfl,rfl⟩
 have c1:rdC w0.inn [(g3,32,#[.int .i64 t.t,.slice A n cp])] g3 1 (.slice A n cp):=.inr ⟨_,_,List.mem_singleton.2 rfl,rfl⟩
 refine sA ?_
 refine sp rfl<|sP (.pointer (some ⟨g3,0,none⟩))<|sS (.int .i64 t.t) (cellC (R:=[(g3,32,#[.int .i64 t.t,.slice A n cp])]) c0 (λy hy=>inWB (List.mem_append_right R hy)) rfl Tryz.underlying3) ?_
 refine Sy.callT (λw hw=>smallW_any w0.inn gw bad s (R++[(g3,32,#[.int .i64 t.t,.slice A n cp])]) b 0 255 t.t hb (by omega) w hw) (λv M hM=>?_)
 obtain ⟨r1,bad1,b1,q1,q2,rfl⟩:=hM
 have hl1:=q1.len
 refine sA ?_
 refine sp rfl<|sP (.pointer (some ⟨g3,1,none⟩))<|sS (.slice A n cp) (cellC (R:=[(g3,32,#[.int .i64 t.t,.slice A n cp])]) c1 (λy hy=>inWB (List.mem_append_right R hy)) rfl Tryz.underlying30)<|sP (.int .i64 (n:Int)) ?_
 refine Sy.callT (λw hw=>manyW_any w0.inn gw bad1 r1 (R++[(g3,32,#[.int .i64 t.t,.slice A n cp])]) b1 n 16 (by omega) (by decide) q2 (by omega) w hw) (λv M hM=>?_)
 obtain ⟨s2,bad2,b2,q3,q4,rfl⟩:=hM
 have hl2:=q3.len
 refine sA ?_
 refine sP (.int .i64 0) ?_
 refine sG<|Sy.block ?_
 refine Sy.loopT (Y:=Slc) n (λi _=>[(0,ptr gw),(3,ptr g3),(4,.int .i64 (i:Int))]) (λ_ y=>WB gw bad2 y (R++[(g3,32,#[.int .i64 t.t,.slice A n cp])])) (λi y=>BS y (b2++(t.keys.take i).flatMap λk=>k)) s2 (by show BS s2 (b2++[]); rw [List.append_nil]; exact q4) (all_cons kR (all_cons kR (all_cons kR all_nil))) (λ_ h=>h) (λi y hi hy=>?_)
 refine Sy.seq<|sC ?_
 obtain ⟨b3,hb3⟩:∃ z:Bool,z=decide (i<n):=⟨_,rfl⟩
 refine sp rfl<|sP (.pointer (some ⟨g3,1,none⟩))<|sS (.slice A n cp) (cellC (R:=[(g3,32,#[.int .i64 t.t,.slice A n cp])]) c1 (λy hy=>inWB (List.mem_append_right R hy)) rfl Tryz.underlying30)<|sP (.int .i64 (n:Int))<|sS (.bool b3) (Quiet.pure (exec_int .lss _ _ _ .i64 _ _ _ rfl rfl rfl (int_lss _ _ _ _ _ (by rw [hb3]; exact decide_eq_decide.2 (by omega))))) ?_
 refine sG ?_
 have htl:((t.keys.take i).flatMap λk=>k).length≤32*i:=by
  rw [flat_key (λo ho=>hcl o (List.mem_of_mem_take ho)),List.length_take]; omega
 cases b3
 case' false =>
  have l3:¬ i<n:=of_decide_eq_false hb3.symm
  obtain rfl:i=n:=by omega
  rw [List.take_of_length_le (by omega)] at hy
  refine sU<|Sy.exit<|Sy.then_exit<|Sy.then_exit<|Sy.in_exit ?_
  have q:=q1.then_ (q3.then_ (Wrote.raw (t.keys.flatMap λk=>k) bad2 b2 (k:=32*t.keys.length) (by rw [flat_key hcl]; exact Nat.le_refl _)))
  rw [Bool.and_true, ← k2] at q
  rw [hwt]
  exact Sy.retT0 rfl (WB gw bad2 y R) (λ_ h=>dropW h) (λ_=>⟨y,bad2,_,q,hy,rfl⟩)
 have l3:i<n:=of_decide_eq_true hb3.symm
 obtain ⟨x,hx⟩:∃ x,t.keys[i]? = some x:=⟨_,List.getElem?_eq_getElem (by omega)⟩
 obtain ⟨g,o,hA,hq⟩:=k5 (by intro e; rw [e] at hx; cases hx)
 obtain ⟨cs,_,_,⟨rfl,x3⟩,hX⟩:=hq i x hx
 have d1:XAt (rdC w0.inn []) g (o+i*32) (x.map bv):=λj u hu=>.inl (hX j u hu)
 have m1:(x.map bv).length=32:=by rw [List.length_map,x3]
 have hyl:(b2++(t.keys.take i).flatMap λk=>k).length≤b2.length+32*i:=by rw [List.length_append]; omega
 refine sT<|Sy.skip<|Sy.then_<|Sy.seq<|Sy.block<|Sy.region ?_
 refine sp rfl<|sP (.pointer (some ⟨g3,1,none⟩))<|sS (.slice A n cp) (cellC (R:=[(g3,32,#[.int .i64 t.t,.slice A n cp])]) c1 (λy hy=>inWB (List.mem_append_right R hy)) rfl Tryz.underlying30)<|sp rfl<|sS (.pointer (some ⟨g,o+i*32,none⟩)) (Quiet.pure (exec_atO 30 _ _ _ A g o n cp i 32 .i64 hA rfl rfl rfl Tryz.underlying30 kF l3))<|sS (.agg (x.map bv).toArray) (rowC (R:=[]) d1 (λy hy=>by cases hy) m1 rfl Tryz.underlying309) ?_
 refine Sy.callT (λw hw=>digW_any w0.inn gw bad2 y (R++[(g3,32,#[.int .i64 t.t,.slice A n cp])]) _ x x3 hy (by omega) w hw) (λv M hM=>?_)
 obtain ⟨r5,hr5,rfl⟩:=hM
 refine Sy.nil<|Sy.in_<|Sy.then_<|Sy.region ?_
 refine sp rfl<|sS (.int .i64 ((i+1:Nat):Int)) (Quiet.pure (exec_int .add _ _ _ .i64 _ _ _ rfl rfl rfl (int_add _ _ _ _ _ ((wrap_i64 (by omega) (by omega)).trans (by omega)))))<|sp rfl ?_
 refine Sy.nil ?_
 have e:b2++((t.keys.take (i+1)).flatMap λk=>k)=b2++((t.keys.take i).flatMap λk=>k)++x:=by
  rw [List.take_add_one,hx,List.flatMap_append]
  show b2++(((t.keys.take i).flatMap λk=>k)++(x++[]))=_
  simp only [List.append_assoc,List.append_nil]
 exact Sy.againT r5 l3 (by show BS r5 (b2++((t.keys.take (i+1)).flatMap λk=>k)); rw [e]; exact hr5) (all_cons kR (all_cons kR (all_cons kR all_nil))) (λw h=>h)
end Wr
end
section
namespace Wr
open Go.RowKit Sy
set_option maxRecDepth 100000
set_option maxHeartbeats 4000000
theorem textR_any (w:World) (v:Value) (x:Byt) (hv:BytR (rdW w) v x) (hl:x.length≤70368744170000):Calls Tryz.prog 202 #[v] w (GetsN w (ByN (varB x.length++x))):=by
 have hv0:=hv
 obtain ⟨A,n,cp,rfl,h2,h3,h4,h5⟩:=hv
 have hn9:=varB_len x.length
 refine Sy.enter (args:=[.slice A n cp]) Tryz.func202 rfl kL ?_
 refine sC ?_
 refine sP (.slice none 0 0) ?_
 refine sA ?_
 refine sp rfl<|sP (.int .i64 (n:Int))<|sS (.int .u64 (n:Int)) (Quiet.pure (λw=>conv_i6 w _ _ _ n (by omega) rfl rfl)) ?_
 refine Sy.callN kR 153 #[.int .u64 (n:Int)] kF _ (λw' _=>varR_any w' n (by omega)) (λu M hM=>?_)
 obtain ⟨A1,n1,c1,rfl,hs⟩:=hM
 refine sp rfl ?_
 refine sA ?_
 refine sp rfl<|sp rfl ?_
 refine Sy.permS (M:=[]++(M++[])) (List.Perm.of_eq (by simp)) ?_
 refine Sy.appendM (pre:=[]) (r:=⟨.slice A1 n1 c1,M⟩) (T:=[]) kR 29 5 _ _ 1 1 Tryz.underlying29 Cu.info_u8 rfl rfl rfl rfl (by decide) _ _ rfl hs kR (byL_one x) (byL_oneC x) A n cp (by rw [byL_len,h2]) h3 kR (λr=>BytR.from (w0:=Base.of w) (R:=[]) (hv0.le rdW_base) (λy hy=>by cases hy)) (by rw [byL_len, ← h2]; omega) (by rw [byL_len, ← h2]; simp only [maxLen]; omega) (λr hr=>?_)
 have hr':BS r (varB x.length++x):=by
  show r.Is 5 1 _
  rw [byL_app,h2]
  exact hr
 refine sp rfl ?_
 refine sA ?_
 refine sp rfl<|sp rfl ?_
 refine sG<|Sy.ret ?_
 exact Sy.retGM r.bl rfl (.inl (show _=_ by kernel_rfl)) (λ_ h=>h.less (List.sublist_append_left _ _)) hr'.as
theorem textW_any (w0:Base) (gw:Nat) (bad:Bool) (s:Slc) (R:Blocks) (b:Byt) (v:Value) (x:Byt) (most:Nat) (hmo:most<1000000) (hb:BS s b) (hx:BytR (rdW w0.world) v x) (hl:b.length+(9+x.length)≤70368744170000) (w:World) (hw:St w0 w (WB gw bad s R)) :
  Calls Tryz.prog 148 #[ptr gw,v,.int .i64 (most:Int)] w (Turns w0 (Wd gw R (decide (x.length≤most)) (varB x.length++x) (9+x.length) bad b)):=by
 have hx0:=hx
 obtain ⟨A,n,cp,rfl,h2,h3,h4,h5⟩:=hx
 have hn9:=varB_len x.length
 obtain ⟨ok,hok⟩:∃ ok,ok=decide (x.length≤most):=⟨_,rfl⟩
 rw [← hok]
 rw [h2] at hok
 refine Sy.enterT (args:=[ptr gw,.slice A n cp,.int .i64 (most:Int)]) hw Tryz.func148 rfl kL ?_
 refine sC ?_
 refine sp rfl<|sp rfl<|sP (.int .i64 (n:Int))<|sp rfl<|sS (.bool ok) (Quiet.pure (exec_int .leq _ _ _ .i64 _ _ _ rfl rfl rfl (int_leq _ _ _ _ _ (by rw [hok]; exact decide_eq_decide.2 (by omega))))) ?_
 refine Sy.callT (λw hw=>mustW_any w0.inn gw bad ok s R w hw) (λu M hM=>?_)
 subst hM
 refine Sy.nil<|Sy.then_<|Sy.region ?_
 refine sp rfl<|sp rfl ?_
 refine Sy.callN kR 202 #[.slice A n cp] kF _ (λw' hw=>textR_any w' (.slice A n cp) x (hx0.le (λg o u hu=>rdC_world (w0:=w0.inn) (R:=[]) hw (λ_ h=>by cases h) g o u (.inl hu))) (by omega)) (λu M hM=>?_)
 refine Sy.permS (M:=WB gw (bad || !ok) s (R++M)) (List.Perm.of_eq (by simp only [List.append_assoc])) ?_
 refine Sy.callT (λw hw=>wrawW_any w0.inn gw (bad || !ok) s (R++M) b u (varB x.length++x) hb (hM.byt.le (λg o v h=>.inr (rdB_le (λx hx=>List.mem_append_right _ hx) g o v h))) (by rw [List.length_append]; omega) w hw) (λv M2 hM2=>?_)
 obtain ⟨r,hr,rfl⟩:=hM2
 refine Sy.nil ?_
 have q:=(Wrote.must ok bad b).then_ (Wrote.raw (varB x.length++x) (bad || !ok) b (k:=9+x.length) (by rw [List.length_append]; omega))
 rw [Bool.and_true,List.nil_append,Nat.zero_add] at q
 exact Sy.retT0 rfl (WB gw (bad || !ok) r R) (λ_ h=>dropW h) (λ_=>⟨r,bad || !ok,_,q,hr,rfl⟩)
theorem truthW_any (w0:Base) (gw:Nat) (bad:Bool) (s:Slc) (R:Blocks) (b:Byt) (x:Bool) (hb:BS s b) (hl:b.length+1≤70368744177664) (w:World) (hw:St w0 w (WB gw bad s R)) :
  Calls Tryz.prog 149 #[ptr gw,.bool x] w (Turns w0 (WRw gw bad b [trB x] R)):=by
 have fnd:∀ (g1:Nat) (u:UInt8),BytR (rdC w0.inn (R++[(g1,5,#[bv u])])) (.slice (some ⟨g1,0,none⟩) 1 1) [u]:=λg1 u=>⟨_,_,_,rfl,rfl,Nat.le_refl _,by decide,λ_=>⟨g1,0,rfl,λj y hj=>.inr ⟨5,#[bv u],List.mem_append_right _ (List.mem_singleton.2 rfl),by
  cases j with
  | zero=>cases hj; rfl
  | succ j=>cases hj⟩⟩⟩
 refine Sy.enterT (args:=[ptr gw,.bool x]) hw Tryz.func149 rfl kL ?_
 refine sC ?_
 refine sp rfl ?_
 refine sG ?_
 cases x
 case' false =>
  refine sU<|Sy.region ?_
  refine sp rfl ?_
  refine Sy.make kR 5 #[bv (trB false)] (λg=>.slice (some ⟨g,0,none⟩) 1 1) kF (λg1=>?_)
  refine Sy.permS (M:=WB gw bad s (R++[(g1,5,#[bv (trB false)])])) (List.Perm.of_eq (by simp only [List.append_assoc])) ?_
  refine Sy.callT (λw hw=>wrawW_any w0.inn gw bad s (R++[(g1,5,#[bv (trB false)])]) b (.slice (some ⟨g1,0,none⟩) 1 1) [trB false] hb (fnd g1 (trB false)) (by show _+1≤_; omega) w hw) (λv M hM=>?_)
  obtain ⟨r,hr,rfl⟩:=hM
  refine Sy.nil ?_
  exact Sy.retT0 rfl (WB gw bad r R) (λ_ h=>dropW h) (λ_=>⟨r,hr,rfl⟩)
 case' true =>
  refine sT<|Sy.region ?_
  refine sp rfl ?_
  refine Sy.make kR 5 #[bv (trB true)] (λg=>.slice (some ⟨g,0,none⟩) 1 1) kF (λg1=>?_)
  refine Sy.permS (M:=WB gw bad s (R++[(g1,5,#[bv (trB true)])])) (List.Perm.of_eq (by simp only [List.append_assoc])) ?_
  refine Sy.callT (λw hw=>wrawW_any w0.inn gw bad s (R++[(g1,5,#[bv (trB true)])]) b (.slice (some ⟨g1,0,none⟩) 1 1) [trB true] hb (fnd g1 (trB true)) (by show _+1≤_; omega) w hw) (λv M hM=>?_)
  obtain ⟨r,hr,rfl⟩:=hM
  refine Sy.nil ?_
  exact Sy.retT0 rfl (WB gw bad r R) (λ_ h=>dropW h) (λ_=>⟨r,hr,rfl⟩)
end Wr
end
section
namespace Wr
open Go.RowKit Sy
set_option maxRecDepth 100000
set_option maxHeartbeats 4000000
theorem hedW_any (w0:Base) (gw:Nat) (bad:Bool) (s:Slc) (R:Blocks) (b:Byt) (x:MHe) (cs:List Value) (hx:repHE (rdW w0.world) cs x) (hb:BS s b) (hlo:x.next.keys.length≤1000000000000) (hl:b.length+wtHE x≤70368744160000) (w:World) (hw:St w0 w (WB gw bad s R)) :
  Calls Tryz.prog 85 #[ptr gw,.agg cs.toArray] w (Turns w0 (Wd gw R (okHE x) (encHE x) (wtHE x) bad b)):=by
 obtain ⟨pv,hi,ti,rt,mn,rd,ch,nx⟩:=x
 obtain ⟨vr,vk,hcs,h1,h2,h3,h4,h5,h6,h7⟩:=hx
 dsimp only at h1 h2 h3 h4 h5 h6 h7 hlo
 unfold wtHE at hl
 dsimp only at hl
 have e1:(pv.map bv).length=32:=by rw [List.length_map,h1]
 have e2:(rt.map bv).length=32:=by rw [List.length_map,h2]
 have e3:(mn.map bv).length=32:=by rw [List.length_map,h3]
 have hlen:cs.length=102:=by rw [hcs]; simp only [cHE,List.length_append,e1,e2,e3]; rfl
 refine Sy.enterT (args:=[ptr gw,.agg cs.toArray]) hw Tryz.func85 rfl kL ?_
 refine sC ?_
 refine sM 34 cs.toArray (λg3=>?_) kR (λw=>run_boxR rfl rfl (by kernel_rfl) hlen w)
 refine Sy.permS (M:=WB gw bad s (R++[(g3,34,cs.toArray)])) (List.Perm.of_eq (by simp only [List.append_assoc])) ?_
 have hX:∀ l,l=cs→XAt (rdC w0.inn [(g3,34,cs.toArray)]) g3 0 l:=λl e i u hu=>.inr ⟨_,_,List.mem_singleton.2 rfl,by rw [Nat.zero_add,List.getElem?_toArray, ← e]; exact hu⟩
 have X0:XAt (rdC w0.inn [(g3,34,cs.toArray)]) g3 0 (pv.map bv++([.int .u64 (hi:Int)]++([.int .u64 (ti:Int)]++(rt.map bv++(mn.map bv++([vr]++([.bool ch]++([.int .i64 nx.t]++[vk])))))))):=hX _ hcs.symm
 have X1:XAt (rdC w0.inn [(g3,34,cs.toArray)]) g3 32 ([.int .u64 (hi:Int)]++([.int .u64 (ti:Int)]++(rt.map bv++(mn.map bv++([vr]++([.bool ch]++([.int .i64 nx.t]++[vk]))))))):=X0.right e1
 have X2:XAt (rdC w0.inn [(g3,34,cs.toArray)]) g3 33 ([.int .u64 (ti:Int)]++(rt.map bv++(mn.map bv++([vr]++([.bool ch]++([.int .i64 nx.t]++[vk])))))):=X1.right (n:=1) rfl
 have X3:XAt (rdC w0.inn [(g3,34,cs.toArray)]) g3 34 (rt.map bv++(mn.map bv++([vr]++([.bool ch]++([.int .i64 nx.t]++[vk]))))):=X2.right (n:=1) rfl
 have X4:XAt (rdC w0.inn [(g3,34,cs.toArray)]) g3 66 (mn.map bv++([vr]++([.bool ch]++([.int .i64 nx.t]++[vk])))):=X3.right e2
 have X5:XAt (rdC w0.inn [(g3,34,cs.toArray)]) g3 98 ([vr]++([.bool ch]++([.int .i64 nx.t]++[vk]))):=X4.right e3
 have X6:XAt (rdC w0.inn [(g3,34,cs.toArray)]) g3 99 ([.bool ch]++([.int .i64 nx.t]++[vk])):=X5.right (n:=1) rfl
 have X7:XAt (rdC w0.inn [(g3,34,cs.toArray)]) g3 100 ([.int .i64 nx.t,vk]):=X6.right (n:=1) rfl
 obtain ⟨r0,hr0⟩:∃ r,r=s:=⟨_,rfl⟩
 have k0:BS r0 b:=by rw [hr0]; exact hb
 rw [← hr0]
 obtain ⟨c0,hc0⟩:∃ c:Byt,c=b:=⟨_,rfl⟩
 have LL0:c0.length=b.length+0:=by rw [hc0]; rfl
 obtain ⟨c1,hc1⟩:∃ c:Byt,c=(b++pv):=⟨_,rfl⟩
 have LL1:c1.length=b.length+32:=by rw [hc1]; simp only [List.length_append,h1]
 obtain ⟨c2,hc2⟩:∃ c:Byt,c=(b++pv++nb 8 hi):=⟨_,rfl⟩
 have LL2:c2.length=b.length+40:=by rw [hc2]; simp only [List.length_append,nb_len,h1]
 obtain ⟨c3,hc3⟩:∃ c:Byt,c=(b++pv++nb 8 hi++nb 8 ti):=⟨_,rfl⟩
 have LL3:c3.length=b.length+48:=by rw [hc3]; simp only [List.length_append,nb_len,h1]
 obtain ⟨c4,hc4⟩:∃ c:Byt,c=(b++pv++nb 8 hi++nb 8 ti++rt):=⟨_,rfl⟩
 have LL4:c4.length=b.length+80:=by rw [hc4]; simp only [List.length_append,nb_len,h1,h2]
 obtain ⟨c5,hc5⟩:∃ c:Byt,c=(b++pv++nb 8 hi++nb 8 ti++rt++mn):=⟨_,rfl⟩
 have LL5:c5.length=b.length+112:=by rw [hc5]; simp only [List.length_append,nb_len,h1,h2,h3]
 have t1:c0++pv=c1:=by rw [hc0,hc1]
 have t2:c1++nb 8 hi=c2:=by rw [hc1,hc2]
 have t3:c2++nb 8 ti=c3:=by rw [hc2,hc3]
 have t4:c3++rt=c4:=by rw [hc3,hc4]
 have t5:c4++mn=c5:=by rw [hc4,hc5]
 rw [← hc0] at k0
 refine sA ?_
 refine sp rfl<|sP (.pointer (some ⟨g3,0,none⟩))<|sS (.agg (pv.map bv).toArray) (rowC (R:=[(g3,34,cs.toArray)]) (g:=g3) (f:=0) (k:=32) (cs:=pv.map bv) X0.left (λy hy=>inWB (List.mem_append_right R hy)) e1 rfl Tryz.underlying28) ?_
 refine Sy.callT (λw hw=>digW_any w0.inn gw bad r0 (R++[(g3,34,cs.toArray)]) c0 pv h1 k0 (by rw [LL0]; omega) w hw) (λv M hM=>?_)
 obtain ⟨r1,k1,rfl⟩:=hM
 rw [t1] at k1
 refine sA ?_
 refine sp rfl<|sP (.pointer (some ⟨g3,32,none⟩))<|sS (.int .u64 (hi:Int)) (cellC (R:=[(g3,34,cs.toArray)]) (g:=g3) (f:=32) X1.one (λy hy=>inWB (List.mem_append_right R hy)) rfl Tryz.underlying22) ?_
 refine Sy.callT (λw hw=>numW_any w0.inn gw bad r1 (R++[(g3,34,cs.toArray)]) c1 hi 8 h4 (by decide) k1 (by rw [LL1]; omega) w hw) (λv M hM=>?_)
 obtain ⟨r2,k2,rfl⟩:=hM
 rw [t2] at k2
 refine sA ?_
 refine sp rfl<|sP (.pointer (some ⟨g3,33,none⟩))<|sS (.int .u64 (ti:Int)) (cellC (R:=[(g3,34,cs.toArray)]) (g:=g3) (f:=33) X2.one (λy hy=>inWB (List.mem_append_right R hy)) rfl Tryz.underlying22) ?_
 refine Sy.callT (λw hw=>numW_any w0.inn gw bad r2 (R++[(g3,34,cs.toArray)]) c2 ti 8 h5 (by decide) k2 (by rw [LL2]; omega) w hw) (λv M hM=>?_)
 obtain ⟨r3,k3,rfl⟩:=hM
 rw [t3] at k3
 refine sA ?_
 refine sp rfl<|sP (.pointer (some ⟨g3,34,none⟩))<|sS (.agg (rt.map bv).toArray) (rowC (R:=[(g3,34,cs.toArray)]) (g:=g3) (f:=34) (k:=32) (cs:=rt.map bv) X3.left (λy hy=>inWB (List.mem_append_right R hy)) e2 rfl Tryz.underlying28) ?_
 refine Sy.callT (λw hw=>digW_any w0.inn gw bad r3 (R++[(g3,34,cs.toArray)]) c3 rt h2 k3 (by rw [LL3]; omega) w hw) (λv M hM=>?_)
 obtain ⟨r4,k4,rfl⟩:=hM
 rw [t4] at k4
 refine sA ?_
 refine sp rfl<|sP (.pointer (some ⟨g3,66,none⟩))<|sS (.agg (mn.map bv).toArray) (rowC (R:=[(g3,34,cs.toArray)]) (g:=g3) (f:=66) (k:=32) (cs:=mn.map bv) X4.left (λy hy=>inWB (List.mem_append_right R hy)) e3 rfl Tryz.underlying28) ?_
 refine Sy.callT (λw hw=>digW_any w0.inn gw bad r4 (R++[(g3,34,cs.toArray)]) c4 mn h3 k4 (by rw [LL4]; omega) w hw) (λv M hM=>?_)
 obtain ⟨r5,k5,rfl⟩:=hM
 rw [t5] at k5
 refine sA ?_
 refine sp rfl<|sP (.pointer (some ⟨g3,98,none⟩))<|sS vr (cellC (R:=[(g3,34,cs.toArray)]) (g:=g3) (f:=98) X5.one (λy hy=>inWB (List.mem_append_right R hy)) rfl Tryz.underlying29) ?_
 refine Sy.callT (λw hw=>textW_any w0.inn gw bad r5 (R++[(g3,34,cs.toArray)]) c5 vr rd 256 (by decide) k5 h6 (by rw [LL5]; omega) w hw) (λv M hM=>?_)
 obtain ⟨r6,bad6,b6,q6,k6,rfl⟩:=hM
 have l6:=q6.len
 refine sA ?_
 refine sp rfl<|sP (.pointer (some ⟨g3,99,none⟩))<|sS (.bool ch) (cellC (R:=[(g3,34,cs.toArray)]) (g:=g3) (f:=99) X6.one (λy hy=>inWB (List.mem_append_right R hy)) rfl Tryz.underlying4) ?_
 refine Sy.callT (λw hw=>truthW_any w0.inn gw bad6 r6 (R++[(g3,34,cs.toArray)]) b6 ch k6 (by omega) w hw) (λv M hM=>?_)
 obtain ⟨r7,k7,rfl⟩:=hM
 have q7:=Wrote.raw [trB ch] bad6 b6 (k:=1) (Nat.le_refl _)
 have l7:(b6++[trB ch]).length=b6.length+1:=by rw [List.length_append]; rfl
 have q0:=Wrote.raw (pv++(nb 8 hi++(nb 8 ti++(rt++mn)))) bad b (k:=112) (by simp only [List.length_append,nb_len,h1,h2,h3]; omega)
 have t0:b++(pv++(nb 8 hi++(nb 8 ti++(rt++mn))))=c5:=by rw [hc5]; simp only [List.append_assoc]
 rw [t0] at q0
 refine sA ?_
 refine sP (.pointer (some ⟨g3,99,none⟩))<|sS (.bool ch) (cellC (R:=[(g3,34,cs.toArray)]) (g:=g3) (f:=99) X6.one (λy hy=>inWB (List.mem_append_right R hy)) rfl Tryz.underlying4) ?_
 refine sG ?_
 cases ch
 case' true =>
  refine sT<|Sy.region ?_
  refine sp rfl<|sP (.pointer (some ⟨g3,100,none⟩))<|sS (.agg [.int .i64 nx.t,vk].toArray) (rowC (R:=[(g3,34,cs.toArray)]) (g:=g3) (f:=100) (k:=2) (cs:=[.int .i64 nx.t,vk]) X7 (λy hy=>inWB (List.mem_append_right R hy)) rfl rfl Tryz.underlying32) ?_
  refine Sy.callT (λw hw=>parW_any w0.inn gw bad6 r7 (R++[(g3,34,cs.toArray)]) (b6++[trB true]) nx vk h7 k7 hlo (by omega) w hw) (λu M hM=>?_)
  obtain ⟨r8,bad8,b8,q8,k8,rfl⟩:=hM
  refine Sy.nil ?_
  have q':=(q0.then_ (q6.then_ (q7.then_ q8))).le (k':=wtHE ⟨pv,hi,ti,rt,mn,rd,true,nx⟩) (by unfold wtHE; dsimp only; omega)
  simp only [Bool.true_and,List.append_assoc] at q'
  exact Sy.retT0 rfl (WB gw bad8 r8 R) (λ_ h=>dropW h) (λ_=>⟨r8,bad8,b8,by unfold okHE encHE; simp only [if_true,List.append_assoc]; exact q',k8,rfl⟩)
 obtain ⟨A,n,cp,rfl,m2,m3,m4,m5⟩:=h7
 obtain ⟨t1,ht1⟩:∃ t:Bool,t=decide (nx.t=0):=⟨_,rfl⟩
 obtain ⟨t2,ht2⟩:∃ t:Bool,t=decide (n=0):=⟨_,rfl⟩
 obtain ⟨ok,hok⟩:∃ t:Bool,t=(decide (nx.t=0) && decide (nx.keys.length=0)):=⟨_,rfl⟩
 have hk:ok=(t1 && t2):=by rw [hok,ht1,ht2,m2]
 have fine:∀ ok',ok'=ok→Wrote (okHE ⟨pv,hi,ti,rt,mn,rd,false,nx⟩) (encHE ⟨pv,hi,ti,rt,mn,rd,false,nx⟩) (wtHE ⟨pv,hi,ti,rt,mn,rd,false,nx⟩) bad b (bad6 || !ok') (b6++[trB false]):=λok' e=>by
  have q':=(q0.then_ (q6.then_ (q7.then_ (Wrote.must ok' bad6 (b6++[trB false]))))).le (k':=wtHE ⟨pv,hi,ti,rt,mn,rd,false,nx⟩) (by unfold wtHE; dsimp only; omega)
  rw [e,hok] at q' ⊢
  simp only [Bool.true_and,List.append_assoc] at q'
  unfold okHE encHE
  simp only [Bool.false_eq_true,if_false,List.append_assoc]
  exact q'
 refine sU<|Sy.region ?_
 refine sp rfl<|sP (.pointer (some ⟨g3,100,none⟩))<|sP (.pointer (some ⟨g3,100,none⟩))<|sS (.int .i64 nx.t) (cellC (R:=[(g3,34,cs.toArray)]) (g:=g3) (f:=100) X7.one (λy hy=>inWB (List.mem_append_right R hy)) rfl Tryz.underlying3)<|sS (.bool t1) (Quiet.pure (exec_int .eql _ _ _ .i64 _ _ _ rfl rfl rfl (int_eql _ _ _ _ _ (ht1.symm))))<|sp rfl ?_
 cases t1
 case' false =>
  obtain rfl:ok=false:=hk
  refine sN<|sN<|sN<|sN<|sN<|sP (.bool false) ?_
  refine Sy.callT (λw hw=>mustW_any w0.inn gw bad6 false r7 (R++[(g3,34,cs.toArray)]) w hw) (λu M hM=>?_)
 case' true =>
  obtain rfl:ok=t2:=hk
  refine sP (.pointer (some ⟨g3,100,none⟩))<|sP (.pointer (some ⟨g3,101,none⟩))<|sS (.slice A n cp) (cellC (R:=[(g3,34,cs.toArray)]) (g:=g3) (f:=101) X7.tail.one (λy hy=>inWB (List.mem_append_right R hy)) rfl Tryz.underlying30)<|sP (.int .i64 (n:Int))<|sS (.bool ok) (Quiet.pure (exec_int .eql _ _ _ .i64 _ _ _ rfl rfl rfl (int_eql _ _ _ _ _ (by rw [ht2]; exact decide_eq_decide.2 (by omega)))))<|sP (.bool ok) ?_
  refine Sy.callT (λw hw=>mustW_any w0.inn gw bad6 ok r7 (R++[(g3,34,cs.toArray)]) w hw) (λu M hM=>?_)
 all_goals
  subst hM
  refine Sy.nil ?_
 ·exact Sy.retT0 rfl (WB gw (bad6 || !ok) r7 R) (λ_ h=>dropW h) (λ_=>⟨r7,bad6 || !ok,_,fine ok rfl,k7,rfl⟩)
 ·exact Sy.retT0 rfl (WB gw (bad6 || !false) r7 R) (λ_ h=>dropW h) (λ_=>⟨r7,bad6 || !false,_,fine false rfl,k7,rfl⟩)
theorem hedR_w (w:World) (x:MHe) (cs:List Value) (hx:repHE (rdW w) cs x) (hlo:x.next.keys.length≤1000000000) (hrl:x.reward.length≤1000000000) :
  Calls Tryz.prog 45 #[.agg cs.toArray] w (GetsN w (BytE (okHE x) (encHE x))):=by
 have hwt:wtHE x≤70368744160000:=by unfold wtHE wtPA; rw [sum_32]; omega
 have hlen:cs.length=102:=by
  obtain ⟨vr,vk,hcs,h1,h2,h3,_⟩:=hx
  rw [hcs]; simp only [cHE,List.length_append,List.length_map,h1,h2,h3]; rfl
 refine Sy.enter (args:=[.agg cs.toArray]) Tryz.func45 rfl kL ?_
 refine sC ?_
 refine sM 34 cs.toArray (λg1=>?_) kR (λw=>run_boxR rfl rfl (by kernel_rfl) hlen w)
 refine sP (.slice none 0 0)<|sP (.int .i64 0) ?_
 refine sA ?_
 refine sP (.agg #[.slice none 0 0,.bool false])<|sM 115 #[.slice none 0 0,.bool false] (λgw=>?_)
 refine sp rfl ?_
 refine sA ?_
 refine Sy.permS (M:=WB gw false nilS [(g1,34,cs.toArray)]) (Sy.perm_at [1,0] (by kernel_rfl) (by rfl)) ?_
 refine sp rfl<|sS (.agg cs.toArray) (Quiet.mid 1 g1 0 102 34 34 cs cs _ _ rfl kR rfl Tryz.underlying34 rfl kR (by rw [List.drop_zero,List.take_of_length_le (by omega)]) (by omega)) ?_
 refine Sy.callT (λw' hw=>hedW_any (Base.of w) gw false nilS [(g1,34,cs.toArray)] [] x cs hx BS.nil (by omega) (by show 0+_≤_; omega) w' hw) (λu M hM=>?_)
 obtain ⟨s',bad,b',q1,q2,rfl⟩:=hM
 have qb:=q1.bad
 refine sA ?_
 refine sp rfl ?_
 refine Sy.callT (λw' hw=>doneW_any (Base.of w) gw bad s' [(g1,34,cs.toArray)] w' hw) (λu M hM=>?_)
 obtain ⟨rfl,rfl⟩:=hM
 cases bad
 ·have hok:okHE x=true:=by
   cases h:okHE x with
   | true=>rfl
   | false=>rw [h] at qb; cases qb
  have hbb:b'=encHE x:=q1.bytes rfl
  rw [if_neg (by decide)]
  refine sp rfl<|sp rfl<|sp rfl<|sp rfl ?_
  refine sG<|Sy.ret ?_
  exact Sy.retGM2 s'.bl rfl (.inl (show _=_ by kernel_rfl)) (.inl (show _=_ by kernel_rfl)) (λ_ h=>h.less ((List.sublist_append_left _ _).trans (List.sublist_append_right _ _))) (.inl ⟨hok,_,rfl,by rw [← hbb]; exact q2.as⟩)
 ·have hok:okHE x=false:=by
   cases h:okHE x with
   | false=>rfl
   | true=>rw [h] at qb; cases qb
  rw [if_pos rfl]
  refine sp rfl<|sp rfl<|sp rfl<|sp rfl ?_
  refine sG<|Sy.ret ?_
  exact Sy.retGM2 [] rfl (.inl (show _=_ by kernel_rfl)) (.inl (show _=_ by kernel_rfl)) (λ_ h=>h.none) (.inr ⟨hok,rfl,rfl⟩)
end Wr
end
section
namespace Cu
open Go.RowKit Sy
set_option maxRecDepth 100000
set_option maxHeartbeats 4000000
section
variable {P:Program} {w0:Base} {n:Nat} {F:Slots} {L:Blocks}
theorem retG {w1:World} {fn:Func} {r:ResultVar} {v:Value} {R:Value→Blocks→Prop} (i:Nat) (b:Nat×TypeId×Array Value) (hr:fn.results=#[r]) (h:Has P F L r v) (hb:L[i]? = some b) (hR:R v [b]):X (Base.of w1) n (bodyPost P fn (GetsN w1 R)) F L .ret:=λa w ha hw=>by
 refine bodyPost_ret (v:=v) ?_ ha.1 ⟨v,[b],rfl,hR,hw.below,λg t cs hm=>?_,by simp⟩
 ·rcases Res.run h ha hw with ⟨t,rfl,e1⟩ | ⟨t,ty,ad,rfl,e1,e2⟩ <;> simp [results,Result.andThen, *]
 ·obtain rfl:=List.mem_singleton.1 hm
  exact hw.blk _ _ _ (List.mem_of_getElem? hb)
end
theorem own_row {l:List UInt8} {k:Nat} {sp:List Value} (h:l.length=k):(((l.map bv++sp).toArray).toList.drop 0).take k=l.map bv:=by
 rw [List.drop_zero,List.take_append_of_le_length (by rw [List.length_map,h]; exact Nat.le_refl _),List.take_of_length_le (by rw [List.length_map,h]; exact Nat.le_refl _)]
theorem one_row (l:List UInt8):∀ u∈l.map bv,u.oneCell'=true:=λu hu=>by
 obtain ⟨x,_,rfl⟩:=List.mem_map.1 hu
 rfl
theorem bytesN_any (w:World) (x:Nat) (hx:x<K4):Calls Tryz.prog 239 #[fv x] w (GetsN w (λvq Mq=>∃ (g:Nat) (sp:List Value) (cap:Nat),vq=.slice (some ⟨g,0,none⟩) 32 cap∧Mq=[(g,5,((bytesS x).map bv++sp).toArray)])):=by
 refine (bytesR_any w x hx).mono ?_
 rintro e w' ⟨g,cap,rfl,ho,hl,hb⟩
 rcases ho.2 with ⟨h0,_⟩ | ⟨g',cap',cur,hv,hg,hk,_,q4,q5,q6⟩
 ·cases h0
 ·cases hv
  have hc:cur=((bytesS x).map bv++cur.toList.drop 32).toArray:=by
   rw [Nat.mul_one,bytesS_length] at q6
   rw [← q6,List.take_append_drop]
  refine ⟨_,[(g,5,cur)],rfl,⟨g,cur.toList.drop 32,cap,rfl,by rw [← hc]⟩,hb,λg1 t1 cs1 hm=>?_,by simp⟩
  simp only [List.mem_singleton,Prod.mk.injEq] at hm
  obtain ⟨rfl,rfl,rfl⟩:=hm
  exact ⟨by omega,hk⟩
theorem rem2 (w:World) (F:Slots) (o:Oper) (x y:Operand) (n:Nat) {yt:TypeId} (ho:o.op=.binOp .rem 22 x y yt) (hx:evF F x=.int .u64 (n:Int)) (hy:evF F y=.int .u64 2) (hn:n<18446744073709551616):(execOp (evF F) o).run Tryz.prog w=.ok (.value (.int .u64 ((n%2:Nat):Int))) w:=by
 have h:(binOp .rem 22 (.int .u64 (n:Int)) (.int .u64 2)).run Tryz.prog w=.ok (.int .u64 ((n%2:Nat):Int)) w:=by
  go_simp
  exact Int.tmod_eq_emod_of_nonneg (by omega)
 have h1:(eqGuard .rem 22 x y (.int .u64 (n:Int)) (.int .u64 2)).run Tryz.prog w=.ok () w:=by go_simp
 unfold execOp
 simp only [ho,hx,hy,Sem.run_bind,h1,h,Result.andThen_ok,Sem.run_pure]
theorem encW_none (w:World) (x y:Nat) (i:Bool) (hx:x<K4) (hy:y<K4) (h:dec x y i=none):Calls Tryz.prog 242 #[pv x y i] w (GetsN w (λvq Mq=>∃ (g:Nat) (sp:List Value) (cap:Nat),vq=.slice (some ⟨g,0,none⟩) 33 cap∧(33≤cap∧cap≤9223372036854775807)∧Mq=[(g,5,((encS none).map bv++sp).toArray)])):=by
 refine Sy.enter (args:=[pv x y i]) Tryz.func242 rfl kL ?_
 refine sC ?_
 refine sM 73 (pcs x y i) (λg0=>?_)
 refine sP (.slice none 0 0) ?_
 refine sA ?_
 refine sS (pv x y i) (qL 0 g0 0 9 73 73 (pcs x y i) rfl Tryz.underlying73)<|sS (pv 0 0 true) (qF 281 #[pv x y i] (λw=>by have hrr:=taken_c w x y i lK lK; rw [h] at hrr; exact hrr))<|sW 0 g0 73 (pcs x y i) (pcs 0 0 true) (wS 0 73 (pcs 0 0 true) rfl) ?_
 refine sA ?_
 refine Sy.make kR 5 (Zl 33).toArray (λg=>.slice (some ⟨g,0,none⟩) 33 33) kF (λg1=>?_)
 refine sP (.slice (some ⟨g1,0,none⟩) 33 33) ?_
 refine sG<|Sy.seq<|sC ?_
 refine sP (.pointer (some ⟨g0,8,none⟩))<|sS (.bool true) (qC 0 g0 8 73 4 (pcs 0 0 true) rfl Tryz.underlying4) ?_
 refine sG<|sT<|sC ?_
 refine sP (.slice (some ⟨g1,0,none⟩) 33 33)<|sP (.slice (some ⟨g1,0,none⟩) 33 33) ?_
 refine sG<|Sy.ret<|Sy.then_ret ?_
 exact retG 1 (g1,5,(Zl 33).toArray) rfl (v:=.slice (some ⟨g1,0,none⟩) 33 33) (.inl (show _=_ by kernel_rfl)) kR ⟨g1,[],33,rfl,⟨by decide,by decide⟩,by kernel_rfl⟩
theorem encW_even (w:World) (x y:Nat) (i:Bool) (hx:x<K4) (hy:y<K4) (u v:Fp) (h:dec x y i=some (u,v)) (hv:v.val%2=0):Calls Tryz.prog 242 #[pv x y i] w (GetsN w (λvq Mq=>∃ (g:Nat) (sp:List Value) (cap:Nat),vq=.slice (some ⟨g,0,none⟩) 33 cap∧(33≤cap∧cap≤9223372036854775807)∧Mq=[(g,5,((encS (some (u,v))).map bv++sp).toArray)])):=by
 have hv2:v.val%18446744073709551616%2=0:=by omega
 refine Sy.enter (args:=[pv x y i]) Tryz.func242 rfl kL ?_
 refine sC ?_
 refine sM 73 (pcs x y i) (λg0=>?_)
 refine sP (.slice none 0 0) ?_
 refine sA ?_
 refine sS (pv x y i) (qL 0 g0 0 9 73 73 (pcs x y i) rfl Tryz.underlying73)<|sS (pv u.val v.val false) (qF 281 #[pv x y i] (λw=>by have hrr:=taken_c w x y i lK lK; rw [h] at hrr; exact hrr))<|sW 0 g0 73 (pcs x y i) (pcs u.val v.val false) (wS 0 73 (pcs u.val v.val false) rfl) ?_
 refine sA ?_
 refine Sy.make kR 5 (Zl 33).toArray (λg=>.slice (some ⟨g,0,none⟩) 33 33) kF (λg1=>?_)
 refine sP (.slice (some ⟨g1,0,none⟩) 33 33) ?_
 refine sG<|Sy.seq<|sC ?_
 refine sP (.pointer (some ⟨g0,8,none⟩))<|sS (.bool false) (qC 0 g0 8 73 4 (pcs u.val v.val false) rfl Tryz.underlying4) ?_
 refine sG<|sU<|Sy.skip<|sB ?_
 refine sP (.pointer (some ⟨g0,4,none⟩))<|sP (.pointer (some ⟨g0,4,none⟩))<|sS (qv (v.val%18446744073709551616)) (qC 0 g0 4 73 22 (pcs u.val v.val false) rfl Tryz.underlying22)<|sS (.int .u64 0) (Quiet.pure (λw=>(rem2 w _ _ _ _ (v.val%18446744073709551616) rfl rfl rfl (Nat.mod_lt _ (by decide))).trans (by rw [hv2]; rfl)))<|sP (.int .u64 2)<|sP (bv 2) ?_
 refine Sy.make kR 5 #[bv 2] (λg=>.slice (some ⟨g,0,none⟩) 1 1) kF (λg2=>?_)
 refine sP (.slice (some ⟨g2,0,none⟩) 1 1) ?_
 refine sA ?_
 refine sP (.slice (some ⟨g2,0,none⟩) 1 1)<|sP (.pointer (some ⟨g0,0,none⟩))<|sS (fv u.val) (qL 0 g0 0 4 73 71 (pcs u.val v.val false) rfl Tryz.underlying71)<|sS (fv u.val) (qF 240 #[fv u.val] (λw=>refOf_any w u.val lK)) ?_
 refine Sy.callN kR 239 #[fv u.val] kF (λvq Mq=>∃ (g:Nat) (sp:List Value) (cap:Nat),vq=.slice (some ⟨g,0,none⟩) 32 cap∧Mq=[(g,5,((bytesS u.val).map bv++sp).toArray)]) (λw _=>bytesN_any w u.val (lt4 _)) (λvq Mq hR0=>?_)
 obtain ⟨g9,sp9,cp9,rfl,rfl⟩:=hR0
 refine Sy.append kR 29 5 _ _ Tryz.underlying29 info_u8 rfl rfl rfl rfl _ _ rfl 2 g2 1 1 #[bv 2] [bv 2] kR kR kR rfl kR (by decide) 3 g9 0 32 cp9 5 ((bytesS u.val).map bv++sp9).toArray ((bytesS u.val).map bv) kR kR (own_row (bytesS_length _)) (by rw [List.length_map]; exact (bytesS_length _)) (one_row _) (by decide) (λq1 c1 s1 e1 m1=>?_)
 refine sP (.slice (some ⟨q1,0,none⟩) (1+32) c1) ?_
 refine sG<|Sy.ret ?_
 exact retG 2 (q1,5,([bv 2]++((bytesS u.val).map bv++s1)).toArray) rfl (v:=.slice (some ⟨q1,0,none⟩) (1+32) c1) (.inl (show _=_ by kernel_rfl)) kR ⟨q1,s1,c1,rfl,⟨by omega,by simp only [maxLen] at m1; omega⟩,by rw [show encS (some (u,v))=2::bytesS u.val from by show (if v.val%2=1 then (3:UInt8) else 2)::bytesS u.val=_; rw [if_neg (by omega)]]; rfl⟩
theorem encW_odd (w:World) (x y:Nat) (i:Bool) (hx:x<K4) (hy:y<K4) (u v:Fp) (h:dec x y i=some (u,v)) (hv:v.val%2=1):Calls Tryz.prog 242 #[pv x y i] w (GetsN w (λvq Mq=>∃ (g:Nat) (sp:List Value) (cap:Nat),vq=.slice (some ⟨g,0,none⟩) 33 cap∧(33≤cap∧cap≤9223372036854775807)∧Mq=[(g,5,((encS (some (u,v))).map bv++sp).toArray)])):=by
 have hv2:v.val%18446744073709551616%2=1:=by omega
 refine Sy.enter (args:=[pv x y i]) Tryz.func242 rfl kL ?_
 refine sC ?_
 refine sM 73 (pcs x y i) (λg0=>?_)
 refine sP (.slice none 0 0) ?_
 refine sA ?_
 refine sS (pv x y i) (qL 0 g0 0 9 73 73 (pcs x y i) rfl Tryz.underlying73)<|sS (pv u.val v.val false) (qF 281 #[pv x y i] (λw=>by have hrr:=taken_c w x y i lK lK; rw [h] at hrr; exact hrr))<|sW 0 g0 73 (pcs x y i) (pcs u.val v.val false) (wS 0 73 (pcs u.val v.val false) rfl) ?_
 refine sA ?_
 refine Sy.make kR 5 (Zl 33).toArray (λg=>.slice (some ⟨g,0,none⟩) 33 33) kF (λg1=>?_)
 refine sP (.slice (some ⟨g1,0,none⟩) 33 33) ?_
 refine sG<|Sy.seq<|sC ?_
 refine sP (.pointer (some ⟨g0,8,none⟩))<|sS (.bool false) (qC 0 g0 8 73 4 (pcs u.val v.val false) rfl Tryz.underlying4) ?_
 refine sG<|sU<|Sy.skip<|sB ?_
 refine sP (.pointer (some ⟨g0,4,none⟩))<|sP (.pointer (some ⟨g0,4,none⟩))<|sS (qv (v.val%18446744073709551616)) (qC 0 g0 4 73 22 (pcs u.val v.val false) rfl Tryz.underlying22)<|sS (.int .u64 1) (Quiet.pure (λw=>(rem2 w _ _ _ _ (v.val%18446744073709551616) rfl rfl rfl (Nat.mod_lt _ (by decide))).trans (by rw [hv2]; rfl)))<|sP (.int .u64 3)<|sP (bv 3) ?_
 refine Sy.make kR 5 #[bv 3] (λg=>.slice (some ⟨g,0,none⟩) 1 1) kF (λg2=>?_)
 refine sP (.slice (some ⟨g2,0,none⟩) 1 1) ?_
 refine sA ?_
 refine sP (.slice (some ⟨g2,0,none⟩) 1 1)<|sP (.pointer (some ⟨g0,0,none⟩))<|sS (fv u.val) (qL 0 g0 0 4 73 71 (pcs u.val v.val false) rfl Tryz.underlying71)<|sS (fv u.val) (qF 240 #[fv u.val] (λw=>refOf_any w u.val lK)) ?_
 refine Sy.callN kR 239 #[fv u.val] kF (λvq Mq=>∃ (g:Nat) (sp:List Value) (cap:Nat),vq=.slice (some ⟨g,0,none⟩) 32 cap∧Mq=[(g,5,((bytesS u.val).map bv++sp).toArray)]) (λw _=>bytesN_any w u.val (lt4 _)) (λvq Mq hR0=>?_)
 obtain ⟨g9,sp9,cp9,rfl,rfl⟩:=hR0
 refine Sy.append kR 29 5 _ _ Tryz.underlying29 info_u8 rfl rfl rfl rfl _ _ rfl 2 g2 1 1 #[bv 3] [bv 3] kR kR kR rfl kR (by decide) 3 g9 0 32 cp9 5 ((bytesS u.val).map bv++sp9).toArray ((bytesS u.val).map bv) kR kR (own_row (bytesS_length _)) (by rw [List.length_map]; exact (bytesS_length _)) (one_row _) (by decide) (λq1 c1 s1 e1 m1=>?_)
 refine sP (.slice (some ⟨q1,0,none⟩) (1+32) c1) ?_
 refine sG<|Sy.ret ?_
 exact retG 2 (q1,5,([bv 3]++((bytesS u.val).map bv++s1)).toArray) rfl (v:=.slice (some ⟨q1,0,none⟩) (1+32) c1) (.inl (show _=_ by kernel_rfl)) kR ⟨q1,s1,c1,rfl,⟨by omega,by simp only [maxLen] at m1; omega⟩,by rw [show encS (some (u,v))=3::bytesS u.val from by show (if v.val%2=1 then (3:UInt8) else 2)::bytesS u.val=_; rw [if_pos (by omega)]]; rfl⟩
theorem encW_any (w:World) (x y:Nat) (i:Bool) (hx:x<K4) (hy:y<K4):Calls Tryz.prog 242 #[pv x y i] w (GetsN w (λvq Mq=>∃ (g:Nat) (sp:List Value) (cap:Nat),vq=.slice (some ⟨g,0,none⟩) 33 cap∧(33≤cap∧cap≤9223372036854775807)∧Mq=[(g,5,((encS (dec x y i)).map bv++sp).toArray)])):=by
 rcases h:dec x y i with _ | ⟨u,v⟩
 ·exact encW_none w x y i hx hy h
 ·rcases Nat.mod_two_eq_zero_or_one v.val with hv | hv
  ·exact encW_even w x y i hx hy u v h hv
  ·exact encW_odd w x y i hx hy u v h hv
end Cu
end
section
section
open Go.RowKit Go.Lib
end
end
section
namespace Sy
open Go.RowKit
section
variable {P:Program} {w0:Base} {n:Nat} {Q:Exit→Act→World→Prop} {F:Slots} {L:Blocks}
end
end Sy
end
section
namespace Cu
open Go.RowKit Sy
end Cu
end
section
namespace Cu
open Go.RowKit Sy
set_option maxRecDepth 100000
set_option maxHeartbeats 4000000
section
variable {P:Program} {w0:Base} {F:Slots} {L:Blocks} {o:Oper}
end
end Cu
end
section
namespace Wr
open Go.RowKit Sy
set_option maxRecDepth 100000
set_option maxHeartbeats 4000000
theorem wr_must (ok bad:Bool) (b x:Byt) (k:Nat) (h:x.length≤k):Wrote ok x k bad b (bad || !ok) (b++x):=by
 have q:=(Wrote.must ok bad b).then_ (Wrote.raw x (bad || !ok) b h)
 rw [Bool.and_true,List.nil_append,Nat.zero_add] at q
 exact q
theorem pointW_any (w0:Base) (gw:Nat) (bad:Bool) (s:Slc) (R:Blocks) (b:Byt) (p:MPt) (h1:p.x<Cu.K4) (h2:p.y<Cu.K4) (hb:BS s b) (hl:b.length+33≤70368744177000) (w:World) (hw:St w0 w (WB gw bad s R)) :
  Calls Tryz.prog 205 #[ptr gw,.agg (lPT p).toArray] w (Turns w0 (Wd gw R (okPT p) (encPT p) 33 bad b)):=by
 refine Sy.enterT (args:=[ptr gw,.agg (lPT p).toArray]) hw Tryz.func205 rfl kL ?_
 refine sC ?_
 refine sM 73 (lPT p).toArray (λg3=>?_) kR (λw=>run_boxR rfl rfl (by kernel_rfl) (lPT_len p) w)
 refine Sy.permS (M:=WB gw bad s (R++[(g3,73,(lPT p).toArray)])) (List.Perm.of_eq (by simp only [List.append_assoc])) ?_
 have X0:XAt (rdC w0.inn [(g3,73,(lPT p).toArray)]) g3 0 ((lPT p)):=λi u hu=>.inr ⟨_,_,List.mem_singleton.2 rfl,by rw [Nat.zero_add,List.getElem?_toArray]; exact hu⟩
 have X8:XAt (rdC w0.inn [(g3,73,(lPT p).toArray)]) g3 8 [.bool p.i]:=(X0.right (n:=4) rfl).right (n:=4) rfl
 obtain ⟨b1,hb1⟩:∃ z,z=Cu.rightB p.x p.y p.i:=⟨_,rfl⟩
 obtain ⟨ok,hok⟩:∃ z,z=okPT p:=⟨_,rfl⟩
 have e:ok=(b1 && !p.i):=by rw [hok,hb1]; rfl
 refine sA ?_
 refine sp rfl<|sS (.agg (lPT p).toArray) (rowC (R:=[(g3,73,(lPT p).toArray)]) (g:=g3) (f:=0) (k:=9) (cs:=lPT p) X0 (λy hy=>inWB (List.mem_append_right R hy)) (lPT_len p) rfl Tryz.underlying73)<|sS (.bool b1) (qG 241 #[Cu.pv p.x p.y p.i] (λw hw=>by rw [hb1]; exact Cu.rightR_b w _ _ _ h1 h2))<|sp rfl ?_
 rw [← hok]
 cases b1
 case' false =>
  obtain rfl:ok=false:=e
  refine sN<|sN<|sN<|sP (.bool false) ?_
  refine Sy.callT (λw hw=>mustW_any w0.inn gw bad false s (R++[(g3,73,(lPT p).toArray)]) w hw) (λu M hM=>?_)
 case' true =>
  obtain rfl:ok=!p.i:=e
  refine sP (.pointer (some ⟨g3,8,none⟩))<|sS (.bool p.i) (cellC (R:=[(g3,73,(lPT p).toArray)]) (g:=g3) (f:=8) X8.one (λy hy=>inWB (List.mem_append_right R hy)) rfl Tryz.underlying4)<|sP (.bool (!p.i))<|sP (.bool (!p.i)) ?_
  refine Sy.callT (λw hw=>mustW_any w0.inn gw bad (!p.i) s (R++[(g3,73,(lPT p).toArray)]) w hw) (λu M hM=>?_)
 all_goals
  subst hM
  refine Sy.nil<|Sy.then_<|Sy.region ?_
  refine sp rfl<|sS (.agg (lPT p).toArray) (rowC (R:=[(g3,73,(lPT p).toArray)]) (g:=g3) (f:=0) (k:=9) (cs:=lPT p) X0 (λy hy=>inWB (List.mem_append_right R hy)) (lPT_len p) rfl Tryz.underlying73) ?_
  refine Sy.callN kR 242 #[Cu.pv p.x p.y p.i] kF _ (λw' _=>Cu.encW_any w' p.x p.y p.i h1 h2) (λu M hM=>?_)
  obtain ⟨g,sq,cap,rfl,⟨hc1,hc2⟩,rfl⟩:=hM
 ·have hB:BytR (rdC w0.inn ((R++[(g3,73,(lPT p).toArray)])++[(g,5,((encPT p).map bv++sq).toArray)])) (.slice (some ⟨g,0,none⟩) 33 cap) (encPT p):=⟨_,_,_,rfl,by first | exact encPT_len p | exact (encPT_len p).symm,hc1,hc2,λ_=>⟨g,0,rfl,λj y hj=>.inr ⟨5,_,List.mem_append_right _ (List.mem_singleton.2 rfl),by rw [Nat.zero_add,List.getElem?_toArray,List.getElem?_append_left (by rw [List.length_map]; exact (List.getElem?_eq_some_iff.1 hj).1),List.getElem?_map,hj]; rfl⟩⟩⟩
  refine Sy.permS (M:=WB gw (bad || !(!p.i)) s ((R++[(g3,73,(lPT p).toArray)])++[(g,5,((encPT p).map bv++sq).toArray)])) (List.Perm.of_eq (by simp only [List.append_assoc]; rfl)) ?_
  refine Sy.callT (λw hw=>wrawW_any w0.inn gw (bad || !(!p.i)) s ((R++[(g3,73,(lPT p).toArray)])++[(g,5,((encPT p).map bv++sq).toArray)]) b _ (encPT p) hb hB (by rw [encPT_len]; omega) w hw) (λv M hM=>?_)
  obtain ⟨r,hr,rfl⟩:=hM
  refine Sy.nil ?_
  exact Sy.retT0 rfl (WB gw (bad || !(!p.i)) r R) (λ_ h=>dropW (by simpa only [List.append_assoc] using h)) (λ_=>⟨r,bad || !(!p.i),b++encPT p,wr_must (!p.i) bad b (encPT p) 33 (by rw [encPT_len]; exact Nat.le_refl _),hr,rfl⟩)
 ·have hB:BytR (rdC w0.inn ((R++[(g3,73,(lPT p).toArray)])++[(g,5,((encPT p).map bv++sq).toArray)])) (.slice (some ⟨g,0,none⟩) 33 cap) (encPT p):=⟨_,_,_,rfl,by first | exact encPT_len p | exact (encPT_len p).symm,hc1,hc2,λ_=>⟨g,0,rfl,λj y hj=>.inr ⟨5,_,List.mem_append_right _ (List.mem_singleton.2 rfl),by rw [Nat.zero_add,List.getElem?_toArray,List.getElem?_append_left (by rw [List.length_map]; exact (List.getElem?_eq_some_iff.1 hj).1),List.getElem?_map,hj]; rfl⟩⟩⟩
  refine Sy.permS (M:=WB gw (bad || !(false)) s ((R++[(g3,73,(lPT p).toArray)])++[(g,5,((encPT p).map bv++sq).toArray)])) (List.Perm.of_eq (by simp only [List.append_assoc]; rfl)) ?_
  refine Sy.callT (λw hw=>wrawW_any w0.inn gw (bad || !(false)) s ((R++[(g3,73,(lPT p).toArray)])++[(g,5,((encPT p).map bv++sq).toArray)]) b _ (encPT p) hb hB (by rw [encPT_len]; omega) w hw) (λv M hM=>?_)
  obtain ⟨r,hr,rfl⟩:=hM
  refine Sy.nil ?_
  exact Sy.retT0 rfl (WB gw (bad || !(false)) r R) (λ_ h=>dropW (by simpa only [List.append_assoc] using h)) (λ_=>⟨r,bad || !(false),b++encPT p,wr_must (false) bad b (encPT p) 33 (by rw [encPT_len]; exact Nat.le_refl _),hr,rfl⟩)
theorem tagW_any (w0:Base) (gw:Nat) (bad:Bool) (s:Slc) (R:Blocks) (b:Byt) (t:MTag) (h1:t.id.length=32) (h2:t.pt.x<Cu.K4) (h3:t.pt.y<Cu.K4) (hb:BS s b) (hl:b.length+34≤70368744177000) (w:World) (hw:St w0 w (WB gw bad s R)) :
  Calls Tryz.prog 159 #[ptr gw,.agg (cTG t).toArray] w (Turns w0 (Wd gw R (okTG t) (encTG t) 34 bad b)):=by
 obtain ⟨bl,id,p⟩:=t
 dsimp only at h1 h2 h3
 have e1:(id.map bv).length=32:=by rw [List.length_map,h1]
 have hlen:(cTG ⟨bl,id,p⟩).length=42:=cTG_len h1
 refine Sy.enterT (args:=[ptr gw,.agg (cTG ⟨bl,id,p⟩).toArray]) hw Tryz.func159 rfl kL ?_
 refine sC ?_
 refine sM 86 (cTG ⟨bl,id,p⟩).toArray (λg3=>?_) kR (λw=>run_boxR rfl rfl (by kernel_rfl) hlen w)
 refine Sy.permS (M:=WB gw bad s (R++[(g3,86,(cTG ⟨bl,id,p⟩).toArray)])) (List.Perm.of_eq (by simp only [List.append_assoc])) ?_
 have X0:XAt (rdC w0.inn [(g3,86,(cTG ⟨bl,id,p⟩).toArray)]) g3 0 ((cTG ⟨bl,id,p⟩)):=λi u hu=>.inr ⟨_,_,List.mem_singleton.2 rfl,by rw [Nat.zero_add,List.getElem?_toArray]; exact hu⟩
 have Y1:XAt (rdC w0.inn [(g3,86,(cTG ⟨bl,id,p⟩).toArray)]) g3 1 (id.map bv++lPT p):=X0.right (n:=1) rfl
 have X1:=Y1.left
 have X2:XAt (rdC w0.inn [(g3,86,(cTG ⟨bl,id,p⟩).toArray)]) g3 33 (lPT p):=Y1.right e1
 have q0:=Wrote.raw [trB bl] bad b (k:=1) (Nat.le_refl _)
 have l0:(b++[trB bl]).length=b.length+1:=by rw [List.length_append]; rfl
 refine sA ?_
 refine sp rfl<|sP (.pointer (some ⟨g3,0,none⟩))<|sS (.bool bl) (cellC (R:=[(g3,86,(cTG ⟨bl,id,p⟩).toArray)]) (g:=g3) (f:=0) X0.one (λy hy=>inWB (List.mem_append_right R hy)) rfl Tryz.underlying4) ?_
 refine Sy.callT (λw hw=>truthW_any w0.inn gw bad s (R++[(g3,86,(cTG ⟨bl,id,p⟩).toArray)]) b bl hb (by omega) w hw) (λv M hM=>?_)
 obtain ⟨r,k1,rfl⟩:=hM
 refine sG<|Sy.seq<|sC ?_
 refine sP (.pointer (some ⟨g3,0,none⟩))<|sS (.bool bl) (cellC (R:=[(g3,86,(cTG ⟨bl,id,p⟩).toArray)]) (g:=g3) (f:=0) X0.one (λy hy=>inWB (List.mem_append_right R hy)) rfl Tryz.underlying4) ?_
 refine sG ?_
 cases bl
 case' true =>
  refine sT<|sC ?_
  obtain ⟨ok,hok⟩:∃ z:Bool,z=decide (id=z32):=⟨_,rfl⟩
  refine sp rfl<|sP (.pointer (some ⟨g3,1,none⟩))<|sS (.agg (id.map bv).toArray) (rowC (R:=[(g3,86,(cTG ⟨true,id,p⟩).toArray)]) (g:=g3) (f:=1) (k:=32) (cs:=id.map bv) X1 (λy hy=>inWB (List.mem_append_right R hy)) e1 rfl Tryz.underlying28)<|sP (.agg (z32.map bv).toArray)<|sS (.bool ok) (Quiet.pure (λw=>by rw [hok]; exact eql_dgs w _ _ _ _ id z32 h1 rfl rfl rfl rfl)) ?_
  refine Sy.callT (λw hw=>mustW_any w0.inn gw bad ok r (R++[(g3,86,(cTG ⟨true,id,p⟩).toArray)]) w hw) (λu M hM=>?_)
  subst hM
  refine sA ?_
  refine sp rfl<|sP (.pointer (some ⟨g3,33,none⟩))<|sS (.agg (lPT p).toArray) (rowC (R:=[(g3,86,(cTG ⟨true,id,p⟩).toArray)]) (g:=g3) (f:=33) (k:=9) (cs:=lPT p) X2 (λy hy=>inWB (List.mem_append_right R hy)) (lPT_len p) rfl Tryz.underlying73) ?_
  refine Sy.callT (λw hw=>pointW_any w0.inn gw (bad || !ok) r (R++[(g3,86,(cTG ⟨true,id,p⟩).toArray)]) (b++[trB true]) p h2 h3 k1 (by omega) w hw) (λu M hM=>?_)
  obtain ⟨r2,bad2,b2,q2,k2,rfl⟩:=hM
  have q:=q0.then_ ((Wrote.must ok bad (b++[trB true])).then_ q2)
  rw [Bool.true_and,List.nil_append,Nat.zero_add,Bool.and_comm,hok] at q
  refine sG<|Sy.ret<|Sy.then_ret ?_
  exact Sy.retT0 rfl (WB gw bad2 r2 R) (λ_ h=>dropW h) (λ_=>⟨r2,bad2,b2,q,k2,rfl⟩)
 refine sU<|Sy.skip<|sB ?_
 obtain ⟨ok,hok⟩:∃ z:Bool,z=nulPT p:=⟨_,rfl⟩
 refine sp rfl<|sP (.pointer (some ⟨g3,33,none⟩))<|sS (Cu.pv p.x p.y p.i) (rowC (R:=[(g3,86,(cTG ⟨false,id,p⟩).toArray)]) (g:=g3) (f:=33) (k:=9) (cs:=lPT p) X2 (λy hy=>inWB (List.mem_append_right R hy)) (lPT_len p) rfl Tryz.underlying73)<|sP (Cu.pv 0 0 false)<|sS (.bool ok) (Quiet.pure (λw=>by rw [hok]; exact Cu.eql_pt w _ _ _ _ p.x p.y p.i 0 0 false rfl rfl rfl h2 h3 (by decide) (by decide))) ?_
 refine Sy.callT (λw hw=>mustW_any w0.inn gw bad ok r (R++[(g3,86,(cTG ⟨false,id,p⟩).toArray)]) w hw) (λu M hM=>?_)
 subst hM
 refine Sy.nil<|Sy.then_<|Sy.region ?_
 refine sp rfl<|sP (.pointer (some ⟨g3,1,none⟩))<|sS (.agg (id.map bv).toArray) (rowC (R:=[(g3,86,(cTG ⟨false,id,p⟩).toArray)]) (g:=g3) (f:=1) (k:=32) (cs:=id.map bv) X1 (λy hy=>inWB (List.mem_append_right R hy)) e1 rfl Tryz.underlying28) ?_
 refine Sy.callT (λw hw=>digW_any w0.inn gw (bad || !ok) r (R++[(g3,86,(cTG ⟨false,id,p⟩).toArray)]) (b++[trB false]) id h1 k1 (by omega) w hw) (λu M hM=>?_)
 obtain ⟨r2,k2,rfl⟩:=hM
 refine Sy.nil ?_
 have q2:=Wrote.raw id (bad || !ok) (b++[trB false]) (k:=33) (by omega)
 have q:=q0.then_ ((Wrote.must ok bad (b++[trB false])).then_ q2)
 rw [Bool.true_and,Bool.and_true,List.nil_append,Nat.zero_add,hok] at q
 exact Sy.retT0 rfl (WB gw (bad || !ok) r2 R) (λ_ h=>dropW h) (λ_=>⟨r2,bad || !ok,_,by rw [hok]; exact q,k2,rfl⟩)
theorem amountW_any (w0:Base) (gw:Nat) (bad:Bool) (s:Slc) (R:Blocks) (b:Byt) (t:MAmt) (h1:t.value<18446744073709551616) (h2:t.pt.x<Cu.K4) (h3:t.pt.y<Cu.K4) (hb:BS s b) (hl:b.length+34≤70368744177000) (w:World) (hw:St w0 w (WB gw bad s R)) :
  Calls Tryz.prog 160 #[ptr gw,.agg (cAM t).toArray] w (Turns w0 (Wd gw R (okAM t) (encAM t) 34 bad b)):=by
 obtain ⟨bl,id,p⟩:=t
 dsimp only at h1 h2 h3
 have hlen:(cAM ⟨bl,id,p⟩).length=11:=rfl
 refine Sy.enterT (args:=[ptr gw,.agg (cAM ⟨bl,id,p⟩).toArray]) hw Tryz.func160 rfl kL ?_
 refine sC ?_
 refine sM 75 (cAM ⟨bl,id,p⟩).toArray (λg3=>?_) kR (λw=>run_boxR rfl rfl (by kernel_rfl) hlen w)
 refine Sy.permS (M:=WB gw bad s (R++[(g3,75,(cAM ⟨bl,id,p⟩).toArray)])) (List.Perm.of_eq (by simp only [List.append_assoc])) ?_
 have X0:XAt (rdC w0.inn [(g3,75,(cAM ⟨bl,id,p⟩).toArray)]) g3 0 ((cAM ⟨bl,id,p⟩)):=λi u hu=>.inr ⟨_,_,List.mem_singleton.2 rfl,by rw [Nat.zero_add,List.getElem?_toArray]; exact hu⟩
 have X1:XAt (rdC w0.inn [(g3,75,(cAM ⟨bl,id,p⟩).toArray)]) g3 1 ([.int .u64 (id:Int)]++lPT p):=X0.right (n:=1) rfl
 have X2:XAt (rdC w0.inn [(g3,75,(cAM ⟨bl,id,p⟩).toArray)]) g3 2 (lPT p):=X1.right (n:=1) rfl
 have q0:=Wrote.raw [trB bl] bad b (k:=1) (Nat.le_refl _)
 have l0:(b++[trB bl]).length=b.length+1:=by rw [List.length_append]; rfl
 refine sA ?_
 refine sp rfl<|sP (.pointer (some ⟨g3,0,none⟩))<|sS (.bool bl) (cellC (R:=[(g3,75,(cAM ⟨bl,id,p⟩).toArray)]) (g:=g3) (f:=0) X0.one (λy hy=>inWB (List.mem_append_right R hy)) rfl Tryz.underlying4) ?_
 refine Sy.callT (λw hw=>truthW_any w0.inn gw bad s (R++[(g3,75,(cAM ⟨bl,id,p⟩).toArray)]) b bl hb (by omega) w hw) (λv M hM=>?_)
 obtain ⟨r,k1,rfl⟩:=hM
 refine sG<|Sy.seq<|sC ?_
 refine sP (.pointer (some ⟨g3,0,none⟩))<|sS (.bool bl) (cellC (R:=[(g3,75,(cAM ⟨bl,id,p⟩).toArray)]) (g:=g3) (f:=0) X0.one (λy hy=>inWB (List.mem_append_right R hy)) rfl Tryz.underlying4) ?_
 refine sG ?_
 cases bl
 case' true =>
  refine sT<|sC ?_
  obtain ⟨ok,hok⟩:∃ z:Bool,z=decide (id=0):=⟨_,rfl⟩
  refine sp rfl<|sP (.pointer (some ⟨g3,1,none⟩))<|sS (.int .u64 (id:Int)) (cellC (R:=[(g3,75,(cAM ⟨true,id,p⟩).toArray)]) (g:=g3) (f:=1) X1.one (λy hy=>inWB (List.mem_append_right R hy)) rfl Tryz.underlying22)<|sS (.bool ok) (Quiet.pure (exec_int .eql _ _ _ .u64 _ _ _ rfl rfl rfl (int_eql _ _ _ _ _ (by rw [hok]; exact decide_eq_decide.2 (by omega))))) ?_
  refine Sy.callT (λw hw=>mustW_any w0.inn gw bad ok r (R++[(g3,75,(cAM ⟨true,id,p⟩).toArray)]) w hw) (λu M hM=>?_)
  subst hM
  refine sA ?_
  refine sp rfl<|sP (.pointer (some ⟨g3,2,none⟩))<|sS (.agg (lPT p).toArray) (rowC (R:=[(g3,75,(cAM ⟨true,id,p⟩).toArray)]) (g:=g3) (f:=2) (k:=9) (cs:=lPT p) X2 (λy hy=>inWB (List.mem_append_right R hy)) (lPT_len p) rfl Tryz.underlying73) ?_
  refine Sy.callT (λw hw=>pointW_any w0.inn gw (bad || !ok) r (R++[(g3,75,(cAM ⟨true,id,p⟩).toArray)]) (b++[trB true]) p h2 h3 k1 (by omega) w hw) (λu M hM=>?_)
  obtain ⟨r2,bad2,b2,q2,k2,rfl⟩:=hM
  have q:=q0.then_ ((Wrote.must ok bad (b++[trB true])).then_ q2)
  rw [Bool.true_and,List.nil_append,Nat.zero_add,Bool.and_comm,hok] at q
  refine sG<|Sy.ret<|Sy.then_ret ?_
  exact Sy.retT0 rfl (WB gw bad2 r2 R) (λ_ h=>dropW h) (λ_=>⟨r2,bad2,b2,q,k2,rfl⟩)
 refine sU<|Sy.skip<|sB ?_
 obtain ⟨ok,hok⟩:∃ z:Bool,z=nulPT p:=⟨_,rfl⟩
 refine sp rfl<|sP (.pointer (some ⟨g3,2,none⟩))<|sS (Cu.pv p.x p.y p.i) (rowC (R:=[(g3,75,(cAM ⟨false,id,p⟩).toArray)]) (g:=g3) (f:=2) (k:=9) (cs:=lPT p) X2 (λy hy=>inWB (List.mem_append_right R hy)) (lPT_len p) rfl Tryz.underlying73)<|sP (Cu.pv 0 0 false)<|sS (.bool ok) (Quiet.pure (λw=>by rw [hok]; exact Cu.eql_pt w _ _ _ _ p.x p.y p.i 0 0 false rfl rfl rfl h2 h3 (by decide) (by decide))) ?_
 refine Sy.callT (λw hw=>mustW_any w0.inn gw bad ok r (R++[(g3,75,(cAM ⟨false,id,p⟩).toArray)]) w hw) (λu M hM=>?_)
 subst hM
 refine Sy.nil<|Sy.then_<|Sy.region ?_
 refine sp rfl<|sP (.pointer (some ⟨g3,1,none⟩))<|sS (.int .u64 (id:Int)) (cellC (R:=[(g3,75,(cAM ⟨false,id,p⟩).toArray)]) (g:=g3) (f:=1) X1.one (λy hy=>inWB (List.mem_append_right R hy)) rfl Tryz.underlying22) ?_
 refine Sy.callT (λw hw=>numW_any w0.inn gw (bad || !ok) r (R++[(g3,75,(cAM ⟨false,id,p⟩).toArray)]) (b++[trB false]) id 8 h1 (by decide) k1 (by omega) w hw) (λu M hM=>?_)
 obtain ⟨r2,k2,rfl⟩:=hM
 refine Sy.nil ?_
 have q2:=Wrote.raw (nb 8 id) (bad || !ok) (b++[trB false]) (k:=33) (by rw [nb_len]; decide)
 have q:=q0.then_ ((Wrote.must ok bad (b++[trB false])).then_ q2)
 rw [Bool.true_and,Bool.and_true,List.nil_append,Nat.zero_add,hok] at q
 exact Sy.retT0 rfl (WB gw (bad || !ok) r2 R) (λ_ h=>dropW h) (λ_=>⟨r2,bad || !ok,_,by rw [hok]; exact q,k2,rfl⟩)
end Wr
end
section
namespace Wr
open Go.RowKit Sy
set_option maxRecDepth 100000
set_option maxHeartbeats 4000000
theorem outW_any (w0:Base) (gw:Nat) (bad:Bool) (s:Slc) (R:Blocks) (b:Byt) (x:MOu) (cs:List Value) (hx:repOU (rdW w0.world) cs x) (hb:BS s b) (hl:b.length+wtOU x≤70368744160000) (w:World) (hw:St w0 w (WB gw bad s R)) :
  Calls Tryz.prog 98 #[ptr gw,.agg cs.toArray] w (Turns w0 (Wd gw R (okOU x) (encOU x) (wtOU x) bad b)):=by
 obtain ⟨z,ta,am,rg,su,nt,sc⟩:=x
 obtain ⟨vr,vs,vn,vc,hcs,h1,h2,h3,h4,h5,h6⟩:=hx
 dsimp only at h1 h2 h3 h4 h5 h6
 unfold wtOU at hl
 dsimp only at hl
 have hlen:cs.length=58:=by rw [hcs]; simp only [cOU,List.length_append,cTG_len h1.1]; rfl
 refine Sy.enterT (args:=[ptr gw,.agg cs.toArray]) hw Tryz.func98 rfl kL ?_
 refine sC ?_
 refine sM 88 cs.toArray (λg3=>?_) kR (λw=>run_boxR rfl rfl (by kernel_rfl) hlen w)
 refine Sy.permS (M:=WB gw bad s (R++[(g3,88,cs.toArray)])) (List.Perm.of_eq (by simp only [List.append_assoc])) ?_
 have hX:∀ l,l=cs→XAt (rdC w0.inn [(g3,88,cs.toArray)]) g3 0 l:=λl e i u hu=>.inr ⟨_,_,List.mem_singleton.2 rfl,by rw [Nat.zero_add,List.getElem?_toArray, ← e]; exact hu⟩
 have X0:XAt (rdC w0.inn [(g3,88,cs.toArray)]) g3 0 ([.int .i64 z]++(cTG ta++(cAM am++([vr]++([vs]++([vn]++([vc]))))))):=hX _ hcs.symm
 have X1:XAt (rdC w0.inn [(g3,88,cs.toArray)]) g3 1 (cTG ta++(cAM am++([vr]++([vs]++([vn]++([vc])))))):=X0.right (n:=1) rfl
 have X2:XAt (rdC w0.inn [(g3,88,cs.toArray)]) g3 43 (cAM am++([vr]++([vs]++([vn]++([vc]))))):=X1.right (cTG_len h1.1)
 have X3:XAt (rdC w0.inn [(g3,88,cs.toArray)]) g3 54 ([vr]++([vs]++([vn]++([vc])))):=X2.right (n:=11) rfl
 have X4:XAt (rdC w0.inn [(g3,88,cs.toArray)]) g3 55 ([vs]++([vn]++([vc]))):=X3.right (n:=1) rfl
 have X5:XAt (rdC w0.inn [(g3,88,cs.toArray)]) g3 56 ([vn]++([vc])):=X4.right (n:=1) rfl
 have X6:XAt (rdC w0.inn [(g3,88,cs.toArray)]) g3 57 ([vc]):=X5.right (n:=1) rfl
 refine sA ?_
 refine sp rfl<|sP (.pointer (some ⟨g3,0,none⟩))<|sS (.int .i64 z) (cellC (R:=[(g3,88,cs.toArray)]) (g:=g3) (f:=0) X0.one (λy hy=>inWB (List.mem_append_right R hy)) rfl Tryz.underlying3) ?_
 refine Sy.callT (λw hw=>smallW_any w0.inn gw bad s (R++[(g3,88,cs.toArray)]) b 1 4 z hb (by omega) w hw) (λu M hM=>?_)
 obtain ⟨s1,bad1,b1,q1,p1,rfl⟩:=hM
 have l1:b1.length≤b.length+1:=q1.len
 refine sA ?_
 refine sp rfl<|sP (.pointer (some ⟨g3,1,none⟩))<|sS (.agg (cTG ta).toArray) (rowC (R:=[(g3,88,cs.toArray)]) (g:=g3) (f:=1) (k:=42) (cs:=cTG ta) X1.left (λy hy=>inWB (List.mem_append_right R hy)) (cTG_len h1.1) rfl Tryz.underlying86) ?_
 refine Sy.callT (λw hw=>tagW_any w0.inn gw bad1 s1 (R++[(g3,88,cs.toArray)]) b1 ta h1.1 h1.2.1 h1.2.2 p1 (by omega) w hw) (λu M hM=>?_)
 obtain ⟨s2,bad2,b2,q2,p2,rfl⟩:=hM
 have l2:b2.length≤b1.length+34:=q2.len
 refine sA ?_
 refine sp rfl<|sP (.pointer (some ⟨g3,43,none⟩))<|sS (.agg (cAM am).toArray) (rowC (R:=[(g3,88,cs.toArray)]) (g:=g3) (f:=43) (k:=11) (cs:=cAM am) X2.left (λy hy=>inWB (List.mem_append_right R hy)) rfl rfl Tryz.underlying75) ?_
 refine Sy.callT (λw hw=>amountW_any w0.inn gw bad2 s2 (R++[(g3,88,cs.toArray)]) b2 am h2.1 h2.2.1 h2.2.2 p2 (by omega) w hw) (λu M hM=>?_)
 obtain ⟨s3,bad3,b3,q3,p3,rfl⟩:=hM
 have l3:b3.length≤b2.length+34:=q3.len
 refine sA ?_
 refine sp rfl<|sP (.pointer (some ⟨g3,54,none⟩))<|sS vr (cellC (R:=[(g3,88,cs.toArray)]) (g:=g3) (f:=54) X3.one (λy hy=>inWB (List.mem_append_right R hy)) rfl Tryz.underlying29) ?_
 refine Sy.callT (λw hw=>textW_any w0.inn gw bad3 s3 (R++[(g3,88,cs.toArray)]) b3 vr rg 6000 (by decide) p3 h3 (by omega) w hw) (λu M hM=>?_)
 obtain ⟨s4,bad4,b4,q4,p4,rfl⟩:=hM
 have l4:b4.length≤b3.length+(9+rg.length):=q4.len
 refine sA ?_
 refine sp rfl<|sP (.pointer (some ⟨g3,55,none⟩))<|sS vs (cellC (R:=[(g3,88,cs.toArray)]) (g:=g3) (f:=55) X4.one (λy hy=>inWB (List.mem_append_right R hy)) rfl Tryz.underlying29) ?_
 refine Sy.callT (λw hw=>textW_any w0.inn gw bad4 s4 (R++[(g3,88,cs.toArray)]) b4 vs su 6000 (by decide) p4 h4 (by omega) w hw) (λu M hM=>?_)
 obtain ⟨s5,bad5,b5,q5,p5,rfl⟩:=hM
 have l5:b5.length≤b4.length+(9+su.length):=q5.len
 refine sA ?_
 refine sp rfl<|sP (.pointer (some ⟨g3,56,none⟩))<|sS vn (cellC (R:=[(g3,88,cs.toArray)]) (g:=g3) (f:=56) X5.one (λy hy=>inWB (List.mem_append_right R hy)) rfl Tryz.underlying29) ?_
 refine Sy.callT (λw hw=>textW_any w0.inn gw bad5 s5 (R++[(g3,88,cs.toArray)]) b5 vn nt 128 (by decide) p5 h5 (by omega) w hw) (λu M hM=>?_)
 obtain ⟨s6,bad6,b6,q6,p6,rfl⟩:=hM
 have l6:b6.length≤b5.length+(9+nt.length):=q6.len
 refine Sy.nil<|Sy.then_<|Sy.region ?_
 refine sp rfl<|sP (.pointer (some ⟨g3,57,none⟩))<|sS vc (cellC (R:=[(g3,88,cs.toArray)]) (g:=g3) (f:=57) X6.one (λy hy=>inWB (List.mem_append_right R hy)) rfl Tryz.underlying29) ?_
 refine Sy.callT (λw hw=>textW_any w0.inn gw bad6 s6 (R++[(g3,88,cs.toArray)]) b6 vc sc 256 (by decide) p6 h6 (by omega) w hw) (λu M hM=>?_)
 obtain ⟨s7,bad7,b7,q7,p7,rfl⟩:=hM
 have l7:b7.length≤b6.length+(9+sc.length):=q7.len
 refine Sy.nil ?_
 have q:=q1.then_ (q2.then_ (q3.then_ (q4.then_ (q5.then_ (q6.then_ q7)))))
 exact Sy.retT0 rfl (WB gw bad7 s7 R) (λ_ h=>dropW h) (λ_=>⟨s7,bad7,b7,q,p7,rfl⟩)
end Wr
end
section
namespace Wr
open Go.RowKit Sy
set_option maxRecDepth 100000
set_option maxHeartbeats 4000000
theorem lenCF {C:Rdr} {cs:List Value} {t:MCf} (h:repCF C cs t):cs.length=102:=by
 obtain ⟨cp,cm,vc,rfl,h1,_,h3,h4,_⟩:=h
 simp only [List.length_append,List.length_map,h1,lenPA h3,lenMH h4]; rfl
theorem cfgW_any (w0:Base) (gw:Nat) (bad:Bool) (s:Slc) (R:Blocks) (b:Byt) (x:MCf) (cs:List Value) (hx:repCF (rdW w0.world) cs x) (hb:BS s b) (hlo:x.fed.keys.length≤1000000000000) (hco:x.coins.length≤1000000000000) (hl:b.length+wtCF x≤70368744160000) (w:World) (hw:St w0 w (WB gw bad s R)) :
  Calls Tryz.prog 93 #[ptr gw,.agg cs.toArray] w (Turns w0 (Wd gw R (okCF x) (encCF x) (wtCF x) bad b)):=by
 obtain ⟨pg,de,fe,mn,co⟩:=x
 obtain ⟨c_p,c_m,vc,rfl,h1,h2,h3,h4,h5⟩:=hx
 obtain ⟨vk,rfl,k1⟩:=h3
 obtain ⟨rfl,m1,m2,m3,m4⟩:=h4
 obtain ⟨A,n,cp,rfl,n1,n2,n3,n4⟩:=h5
 dsimp only at h1 h2 k1 m1 m2 m3 m4 n1 n4 hlo hco
 unfold wtCF at hl
 dsimp only at hl
 have e0:(pg.map bv).length=32:=by rw [List.length_map,h1]
 have e4:(mn.prev.map bv++(mn.root.map bv++[Value.int .u64 (mn.height:Int),Value.int .u64 (mn.nonce:Int)])).length=66:=by simp only [List.length_append,List.length_map,m1,m2]; rfl
 have hlen:(pg.map bv++([Value.int .u64 (de:Int)]++([Value.int .i64 fe.t,vk]++((mn.prev.map bv++(mn.root.map bv++[Value.int .u64 (mn.height:Int),Value.int .u64 (mn.nonce:Int)]))++[Value.slice A n cp])))).length=102:=by simp only [List.length_append,List.length_map,h1,m1,m2]; rfl
 refine Sy.enterT (args:=[ptr gw,.agg (pg.map bv++([Value.int .u64 (de:Int)]++([Value.int .i64 fe.t,vk]++((mn.prev.map bv++(mn.root.map bv++[Value.int .u64 (mn.height:Int),Value.int .u64 (mn.nonce:Int)]))++[Value.slice A n cp])))).toArray]) hw Tryz.func93 rfl kL ?_
 refine sC ?_
 refine sM 56 (pg.map bv++([Value.int .u64 (de:Int)]++([Value.int .i64 fe.t,vk]++((mn.prev.map bv++(mn.root.map bv++[Value.int .u64 (mn.height:Int),Value.int .u64 (mn.nonce:Int)]))++[Value.slice A n cp])))).toArray (λg3=>?_) kR (λw=>run_boxR rfl rfl (by kernel_rfl) hlen w)
 refine Sy.permS (M:=WB gw bad s (R++[(g3,56,(pg.map bv++([Value.int .u64 (de:Int)]++([Value.int .i64 fe.t,vk]++((mn.prev.map bv++(mn.root.map bv++[Value.int .u64 (mn.height:Int),Value.int .u64 (mn.nonce:Int)]))++[Value.slice A n cp])))).toArray)])) (List.Perm.of_eq (by simp only [List.append_assoc])) ?_
 have X0:XAt (rdC w0.inn [(g3,56,(pg.map bv++([Value.int .u64 (de:Int)]++([Value.int .i64 fe.t,vk]++((mn.prev.map bv++(mn.root.map bv++[Value.int .u64 (mn.height:Int),Value.int .u64 (mn.nonce:Int)]))++[Value.slice A n cp])))).toArray)]) g3 0 (pg.map bv++([Value.int .u64 (de:Int)]++([Value.int .i64 fe.t,vk]++((mn.prev.map bv++(mn.root.map bv++[Value.int .u64 (mn.height:Int),Value.int .u64 (mn.nonce:Int)]))++[Value.slice A n cp])))):=λi u hu=>.inr ⟨_,_,List.mem_singleton.2 rfl,by rw [Nat.zero_add,List.getElem?_toArray]; exact hu⟩
 have X1:XAt (rdC w0.inn [(g3,56,(pg.map bv++([Value.int .u64 (de:Int)]++([Value.int .i64 fe.t,vk]++((mn.prev.map bv++(mn.root.map bv++[Value.int .u64 (mn.height:Int),Value.int .u64 (mn.nonce:Int)]))++[Value.slice A n cp])))).toArray)]) g3 32 ([.int .u64 (de:Int)]++([.int .i64 fe.t,vk]++((mn.prev.map bv++(mn.root.map bv++[Value.int .u64 (mn.height:Int),Value.int .u64 (mn.nonce:Int)]))++[.slice A n cp]))):=X0.right e0
 have X2:XAt (rdC w0.inn [(g3,56,(pg.map bv++([Value.int .u64 (de:Int)]++([Value.int .i64 fe.t,vk]++((mn.prev.map bv++(mn.root.map bv++[Value.int .u64 (mn.height:Int),Value.int .u64 (mn.nonce:Int)]))++[Value.slice A n cp])))).toArray)]) g3 33 ([.int .i64 fe.t,vk]++((mn.prev.map bv++(mn.root.map bv++[Value.int .u64 (mn.height:Int),Value.int .u64 (mn.nonce:Int)]))++[.slice A n cp])):=X1.right (n:=1) rfl
 have X3:XAt (rdC w0.inn [(g3,56,(pg.map bv++([Value.int .u64 (de:Int)]++([Value.int .i64 fe.t,vk]++((mn.prev.map bv++(mn.root.map bv++[Value.int .u64 (mn.height:Int),Value.int .u64 (mn.nonce:Int)]))++[Value.slice A n cp])))).toArray)]) g3 35 ((mn.prev.map bv++(mn.root.map bv++[Value.int .u64 (mn.height:Int),Value.int .u64 (mn.nonce:Int)]))++[.slice A n cp]):=X2.right (n:=2) rfl
 have X4:XAt (rdC w0.inn [(g3,56,(pg.map bv++([Value.int .u64 (de:Int)]++([Value.int .i64 fe.t,vk]++((mn.prev.map bv++(mn.root.map bv++[Value.int .u64 (mn.height:Int),Value.int .u64 (mn.nonce:Int)]))++[Value.slice A n cp])))).toArray)]) g3 101 [.slice A n cp]:=X3.right e4
 obtain ⟨b1,hb1⟩:∃ z,z=b++pg:=⟨_,rfl⟩
 obtain ⟨b2,hb2⟩:∃ z,z=b1++nb 8 de:=⟨_,rfl⟩
 have l1:b1.length=b.length+32:=by rw [hb1,List.length_append,h1]
 have l2:b2.length=b1.length+8:=by rw [hb2,List.length_append,nb_len]
 refine sA ?_
 refine sp rfl<|sP (.pointer (some ⟨g3,0,none⟩))<|sS (.agg (pg.map bv).toArray) (rowC (R:=[(g3,56,(pg.map bv++([Value.int .u64 (de:Int)]++([Value.int .i64 fe.t,vk]++((mn.prev.map bv++(mn.root.map bv++[Value.int .u64 (mn.height:Int),Value.int .u64 (mn.nonce:Int)]))++[Value.slice A n cp])))).toArray)]) (g:=g3) (f:=0) (k:=32) (cs:=pg.map bv) X0.left (λy hy=>inWB (List.mem_append_right R hy)) e0 rfl Tryz.underlying28) ?_
 refine Sy.callT (λw hw=>digW_any w0.inn gw bad s (R++[(g3,56,(pg.map bv++([Value.int .u64 (de:Int)]++([Value.int .i64 fe.t,vk]++((mn.prev.map bv++(mn.root.map bv++[Value.int .u64 (mn.height:Int),Value.int .u64 (mn.nonce:Int)]))++[Value.slice A n cp])))).toArray)]) b pg h1 hb (by omega) w hw) (λu M hM=>?_)
 obtain ⟨r1,p1,rfl⟩:=hM
 rw [← hb1] at p1
 refine sA ?_
 refine sp rfl<|sP (.pointer (some ⟨g3,32,none⟩))<|sS (.int .u64 (de:Int)) (cellC (R:=[(g3,56,(pg.map bv++([Value.int .u64 (de:Int)]++([Value.int .i64 fe.t,vk]++((mn.prev.map bv++(mn.root.map bv++[Value.int .u64 (mn.height:Int),Value.int .u64 (mn.nonce:Int)]))++[Value.slice A n cp])))).toArray)]) (g:=g3) (f:=32) X1.one (λy hy=>inWB (List.mem_append_right R hy)) rfl Tryz.underlying22) ?_
 refine Sy.callT (λw hw=>numW_any w0.inn gw bad r1 (R++[(g3,56,(pg.map bv++([Value.int .u64 (de:Int)]++([Value.int .i64 fe.t,vk]++((mn.prev.map bv++(mn.root.map bv++[Value.int .u64 (mn.height:Int),Value.int .u64 (mn.nonce:Int)]))++[Value.slice A n cp])))).toArray)]) b1 de 8 h2 (by decide) p1 (by omega) w hw) (λu M hM=>?_)
 obtain ⟨r2,p2,rfl⟩:=hM
 rw [← hb2] at p2
 refine sA ?_
 refine sp rfl<|sP (.pointer (some ⟨g3,33,none⟩))<|sS (.agg [.int .i64 fe.t,vk].toArray) (rowC (R:=[(g3,56,(pg.map bv++([Value.int .u64 (de:Int)]++([Value.int .i64 fe.t,vk]++((mn.prev.map bv++(mn.root.map bv++[Value.int .u64 (mn.height:Int),Value.int .u64 (mn.nonce:Int)]))++[Value.slice A n cp])))).toArray)]) (g:=g3) (f:=33) (k:=2) (cs:=[.int .i64 fe.t,vk]) X2.left (λy hy=>inWB (List.mem_append_right R hy)) rfl rfl Tryz.underlying32) ?_
 refine Sy.callT (λw hw=>parW_any w0.inn gw bad r2 (R++[(g3,56,(pg.map bv++([Value.int .u64 (de:Int)]++([Value.int .i64 fe.t,vk]++((mn.prev.map bv++(mn.root.map bv++[Value.int .u64 (mn.height:Int),Value.int .u64 (mn.nonce:Int)]))++[Value.slice A n cp])))).toArray)]) b2 fe vk k1 p2 hlo (by omega) w hw) (λu M hM=>?_)
 obtain ⟨r3,bad3,b3,q3,p3,rfl⟩:=hM
 have l3:b3.length≤b2.length+wtPA fe:=q3.len
 obtain ⟨b4,hb4⟩:∃ z,z=b3++encMH mn:=⟨_,rfl⟩
 have hm80:(encMH mn).length≤80:=by unfold encMH; simp only [List.length_append,nb_len,m1,m2]; omega
 have l4:b4.length≤b3.length+80:=by rw [hb4,List.length_append]; omega
 refine sA ?_
 refine sp rfl<|sP (.pointer (some ⟨g3,35,none⟩))<|sS (.agg (mn.prev.map bv++(mn.root.map bv++[Value.int .u64 (mn.height:Int),Value.int .u64 (mn.nonce:Int)])).toArray) (rowC (R:=[(g3,56,(pg.map bv++([Value.int .u64 (de:Int)]++([Value.int .i64 fe.t,vk]++((mn.prev.map bv++(mn.root.map bv++[Value.int .u64 (mn.height:Int),Value.int .u64 (mn.nonce:Int)]))++[Value.slice A n cp])))).toArray)]) (g:=g3) (f:=35) (k:=66) (cs:=(mn.prev.map bv++(mn.root.map bv++[Value.int .u64 (mn.height:Int),Value.int .u64 (mn.nonce:Int)]))) X3.left (λy hy=>inWB (List.mem_append_right R hy)) e4 rfl Tryz.underlying54) ?_
 refine Sy.callT (λw hw=>mhdW_any w0.inn gw bad3 r3 (R++[(g3,56,(pg.map bv++([Value.int .u64 (de:Int)]++([Value.int .i64 fe.t,vk]++((mn.prev.map bv++(mn.root.map bv++[Value.int .u64 (mn.height:Int),Value.int .u64 (mn.nonce:Int)]))++[Value.slice A n cp])))).toArray)]) b3 mn m1 m2 m3 m4 p3 (by omega) w hw) (λu M hM=>?_)
 obtain ⟨r4,p4,rfl⟩:=hM
 rw [← hb4] at p4
 refine sA ?_
 refine sp rfl<|sP (.pointer (some ⟨g3,101,none⟩))<|sS (.slice A n cp) (cellC (R:=[(g3,56,(pg.map bv++([Value.int .u64 (de:Int)]++([Value.int .i64 fe.t,vk]++((mn.prev.map bv++(mn.root.map bv++[Value.int .u64 (mn.height:Int),Value.int .u64 (mn.nonce:Int)]))++[Value.slice A n cp])))).toArray)]) (g:=g3) (f:=101) X4.one (λy hy=>inWB (List.mem_append_right R hy)) rfl Tryz.underlying24)<|sP (.int .i64 (n:Int)) ?_
 refine Sy.callT (λw hw=>manyW_any w0.inn gw bad3 r4 (R++[(g3,56,(pg.map bv++([Value.int .u64 (de:Int)]++([Value.int .i64 fe.t,vk]++((mn.prev.map bv++(mn.root.map bv++[Value.int .u64 (mn.height:Int),Value.int .u64 (mn.nonce:Int)]))++[Value.slice A n cp])))).toArray)]) b4 n 64 (by omega) (by decide) p4 (by omega) w hw) (λu M hM=>?_)
 obtain ⟨r5,bad5,b5,q5,p5,rfl⟩:=hM
 have l5:b5.length≤b4.length+9:=q5.len
 refine sA ?_
 refine sP (.int .i64 0) ?_
 refine sG<|Sy.block ?_
 have hsum:∀ i,((co.take i).map wtOU).sum≤(co.map wtOU).sum:=λi=>by
  have e:=congrArg (λz=>(z.map wtOU).sum) (List.take_append_drop i co)
  simp only [List.map_append,List.sum_append] at e
  omega
 refine Sy.loopT (Y:=Slc×Bool×Byt) n (λi _=>[(0,ptr gw),(3,ptr g3),(4,.int .i64 (i:Int))]) (λ_ y=>WB gw y.2.1 y.1 (R++[(g3,56,(pg.map bv++([Value.int .u64 (de:Int)]++([Value.int .i64 fe.t,vk]++((mn.prev.map bv++(mn.root.map bv++[Value.int .u64 (mn.height:Int),Value.int .u64 (mn.nonce:Int)]))++[Value.slice A n cp])))).toArray)])) (λi y=>Wrote ((co.take i).all okOU) ((co.take i).flatMap encOU) (((co.take i).map wtOU).sum) bad5 b5 y.2.1 y.2.2∧BS y.1 y.2.2) (r5,bad5,b5) ⟨by
  have e:=Wrote.raw [] bad5 b5 (k:=0) (Nat.le_refl 0)
  rw [List.append_nil] at e
  exact e,p5⟩ (all_cons kR (all_cons kR (all_cons kR all_nil))) (λ_ h=>h) (λi y hi hy=>?_)
 obtain ⟨sy,bady,by_⟩:=y
 obtain ⟨hy,hsy⟩:=hy
 dsimp only at hy hsy ⊢
 refine Sy.seq<|sC ?_
 obtain ⟨b9,hb9⟩:∃ z:Bool,z=decide (i<n):=⟨_,rfl⟩
 refine sp rfl<|sP (.pointer (some ⟨g3,101,none⟩))<|sS (.slice A n cp) (cellC (R:=[(g3,56,(pg.map bv++([Value.int .u64 (de:Int)]++([Value.int .i64 fe.t,vk]++((mn.prev.map bv++(mn.root.map bv++[Value.int .u64 (mn.height:Int),Value.int .u64 (mn.nonce:Int)]))++[Value.slice A n cp])))).toArray)]) (g:=g3) (f:=101) X4.one (λy hy=>inWB (List.mem_append_right R hy)) rfl Tryz.underlying24)<|sP (.int .i64 (n:Int))<|sS (.bool b9) (Quiet.pure (exec_int .lss _ _ _ .i64 _ _ _ rfl rfl rfl (int_lss _ _ _ _ _ (by rw [hb9]; exact decide_eq_decide.2 (by omega))))) ?_
 refine sG ?_
 cases b9
 case' false =>
  have z3:¬ i<n:=of_decide_eq_false hb9.symm
  obtain rfl:i=n:=by omega
  rw [List.take_of_length_le (by omega)] at hy
  refine sU<|Sy.exit<|Sy.then_exit<|Sy.then_exit<|Sy.in_exit ?_
  have q1:=Wrote.raw pg bad b (k:=32) (by omega)
  have q2:=Wrote.raw (nb 8 de) bad b1 (k:=8) (by rw [nb_len]; exact Nat.le_refl _)
  have q4:=Wrote.raw (encMH mn) bad3 b3 (k:=80) hm80
  rw [← hb1] at q1
  rw [← hb2] at q2
  rw [← hb4] at q4
  have q:=q1.then_ (q2.then_ (q3.then_ (q4.then_ (q5.then_ hy))))
  rw [Bool.true_and,Bool.true_and,Bool.true_and, ← n1] at q
  exact Sy.retT0 rfl (WB gw bady sy R) (λ_ h=>dropW h) (λ_=>⟨sy,bady,by_,q,hsy,rfl⟩)
 have z3:i<n:=of_decide_eq_true hb9.symm
 obtain ⟨x,hx⟩:∃ x,co[i]? = some x:=⟨_,List.getElem?_eq_getElem (by omega)⟩
 obtain ⟨g,o,hA,hq⟩:=n4 (by intro e; rw [e] at hx; cases hx)
 obtain ⟨cx,y1,y2,y3,y4⟩:=hq i x hx
 have d1:XAt (rdC w0.inn []) g (o+i*58) cx:=λj u hu=>.inl (y4 j u hu)
 have htk:co.take (i+1)=co.take i++[x]:=by rw [List.take_add_one,hx]; rfl
 have hsi:=hsum (i+1)
 rw [htk] at hsi
 simp only [List.map_append,List.sum_append,List.map_cons,List.map_nil,List.sum_cons,List.sum_nil] at hsi
 have hyl:=hy.len
 refine sT<|Sy.skip<|Sy.then_<|Sy.seq<|Sy.block<|Sy.region ?_
 refine sp rfl<|sP (.pointer (some ⟨g3,101,none⟩))<|sS (.slice A n cp) (cellC (R:=[(g3,56,(pg.map bv++([Value.int .u64 (de:Int)]++([Value.int .i64 fe.t,vk]++((mn.prev.map bv++(mn.root.map bv++[Value.int .u64 (mn.height:Int),Value.int .u64 (mn.nonce:Int)]))++[Value.slice A n cp])))).toArray)]) (g:=g3) (f:=101) X4.one (λy hy=>inWB (List.mem_append_right R hy)) rfl Tryz.underlying24)<|sp rfl<|sS (.pointer (some ⟨g,o+i*58,none⟩)) (Quiet.pure (exec_atO 24 _ _ _ A g o n cp i 58 .i64 hA rfl rfl rfl Tryz.underlying24 kF z3))<|sS (.agg cx.toArray) (rowC (R:=[]) d1 (λy hy=>by cases hy) y1 rfl Tryz.underlying88) ?_
 refine Sy.callT (λw hw=>outW_any w0.inn gw bady sy (R++[(g3,56,(pg.map bv++([Value.int .u64 (de:Int)]++([Value.int .i64 fe.t,vk]++((mn.prev.map bv++(mn.root.map bv++[Value.int .u64 (mn.height:Int),Value.int .u64 (mn.nonce:Int)]))++[Value.slice A n cp])))).toArray)]) by_ x cx y3 hsy (by omega) w hw) (λv M hM=>?_)
 obtain ⟨s9,bad9,b9',q9,p9,rfl⟩:=hM
 refine Sy.nil<|Sy.in_<|Sy.then_<|Sy.region ?_
 refine sp rfl<|sS (.int .i64 ((i+1:Nat):Int)) (Quiet.pure (exec_int .add _ _ _ .i64 _ _ _ rfl rfl rfl (int_add _ _ _ _ _ ((wrap_i64 (by omega) (by omega)).trans (by omega)))))<|sp rfl ?_
 refine Sy.nil ?_
 have hW:=hy.then_ q9
 have hW':Wrote ((co.take (i+1)).all okOU) ((co.take (i+1)).flatMap encOU) (((co.take (i+1)).map wtOU).sum) bad5 b5 bad9 b9':=by
  rw [htk]
  simp only [List.all_append,List.flatMap_append,List.map_append,List.sum_append,List.all_cons,List.all_nil,List.flatMap_cons,List.flatMap_nil,List.map_cons,List.map_nil,List.sum_cons,List.sum_nil,Bool.and_true,List.append_nil,Nat.add_zero]
  exact hW
 exact Sy.againT (s9,bad9,b9') z3 ⟨hW',p9⟩ (all_cons kR (all_cons kR (all_cons kR all_nil))) (λw h=>h)
theorem cfgR_w (w:World) (x:MCf) (cs:List Value) (hx:repCF (rdW w) cs x) (hlo:x.fed.keys.length≤1000000000000) (hco:x.coins.length≤1000000000000) (hwt:wtCF x≤70368744160000) :
  Calls Tryz.prog 51 #[.agg cs.toArray] w (GetsN w (BytE (okCF x) (encCF x))):=by
 have hlen:cs.length=102:=by
  exact lenCF hx
 refine Sy.enter (args:=[.agg cs.toArray]) Tryz.func51 rfl kL ?_
 refine sC ?_
 refine sM 56 cs.toArray (λg1=>?_) kR (λw=>run_boxR rfl rfl (by kernel_rfl) hlen w)
 refine sP (.slice none 0 0)<|sP (.int .i64 0) ?_
 refine sA ?_
 refine sP (.agg #[.slice none 0 0,.bool false])<|sM 115 #[.slice none 0 0,.bool false] (λgw=>?_)
 refine sp rfl ?_
 refine sA ?_
 refine Sy.permS (M:=WB gw false nilS [(g1,56,cs.toArray)]) (Sy.perm_at [1,0] (by kernel_rfl) (by rfl)) ?_
 refine sp rfl<|sS (.agg cs.toArray) (Quiet.mid 1 g1 0 102 56 56 cs cs _ _ rfl kR rfl Tryz.underlying56 rfl kR (by rw [List.drop_zero,List.take_of_length_le (by omega)]) (by omega)) ?_
 refine Sy.callT (λw' hw=>cfgW_any (Base.of w) gw false nilS [(g1,56,cs.toArray)] [] x cs hx BS.nil hlo hco (by show 0+_≤_; omega) w' hw) (λu M hM=>?_)
 obtain ⟨s',bad,b',q1,q2,rfl⟩:=hM
 have qb:=q1.bad
 refine sA ?_
 refine sp rfl ?_
 refine Sy.callT (λw' hw=>doneW_any (Base.of w) gw bad s' [(g1,56,cs.toArray)] w' hw) (λu M hM=>?_)
 obtain ⟨rfl,rfl⟩:=hM
 cases bad
 ·have hok:okCF x=true:=by
   cases h:okCF x with
   | true=>rfl
   | false=>rw [h] at qb; cases qb
  have hbb:b'=encCF x:=q1.bytes rfl
  rw [if_neg (by decide)]
  refine sp rfl<|sp rfl<|sp rfl<|sp rfl ?_
  refine sG<|Sy.ret ?_
  exact Sy.retGM2 s'.bl rfl (.inl (show _=_ by kernel_rfl)) (.inl (show _=_ by kernel_rfl)) (λ_ h=>h.less ((List.sublist_append_left _ _).trans (List.sublist_append_right _ _))) (.inl ⟨hok,_,rfl,by rw [← hbb]; exact q2.as⟩)
 ·have hok:okCF x=false:=by
   cases h:okCF x with
   | false=>rfl
   | true=>rw [h] at qb; cases qb
  rw [if_pos rfl]
  refine sp rfl<|sp rfl<|sp rfl<|sp rfl ?_
  refine sG<|Sy.ret ?_
  exact Sy.retGM2 [] rfl (.inl (show _=_ by kernel_rfl)) (.inl (show _=_ by kernel_rfl)) (λ_ h=>h.none) (.inr ⟨hok,rfl,rfl⟩)
end Wr
end
section
namespace Wr
open Go.RowKit Sy
set_option maxRecDepth 100000
set_option maxHeartbeats 4000000
end Wr
end
section
namespace Wr
open Go.RowKit Sy
set_option maxRecDepth 100000
set_option maxHeartbeats 4000000
end Wr
end
section
namespace Wr
open Go.RowKit Sy
set_option maxRecDepth 100000
set_option maxHeartbeats 4000000
end Wr
end
section
namespace Wr
open Go.RowKit Sy
set_option maxRecDepth 100000
set_option maxHeartbeats 4000000
end Wr
end
section
namespace Wr
open Go.RowKit Sy
set_option maxRecDepth 100000
set_option maxHeartbeats 4000000
end Wr
end
section
namespace Wr
open Go.RowKit Sy
set_option maxRecDepth 100000
set_option maxHeartbeats 4000000
theorem conv_48 (w:World) (F:Slots) (o:Oper) (x:Operand) (n:Nat) (hn:n<4294967296) (ho:o.op=.convert 67 22 x) (hx:evF F x=.int .u32 (n:Int)):(execOp (evF F) o).run Tryz.prog w=.ok (.value (.int .u64 (n:Int))) w:=by
 have h:(convert 67 22 (.int .u32 (n:Int))).run Tryz.prog w=.ok (.int .u64 (n:Int)) w:=by
  go_simp
  unfold IntKind.wrap
  simp [IntKind.signed,IntKind.bits]
  omega
 unfold execOp
 simp only [ho,hx,Sem.run_bind,h,Result.andThen_ok,Sem.run_pure]
theorem word_any (w0:Base) (gw:Nat) (s:Slc) (R:Blocks) (b:Byt) (n:Nat) (hn:n<4294967296) (hb:BS s b) (hl:b.length≤70368744177664) (w:World) (hw:St w0 w (WS gw s R)) :
  Calls Tryz.prog 211 #[ptr gw,.int .u32 (n:Int)] w (Turns w0 (Wr gw R (b++nb 4 n))):=by
 refine Sy.enterT (args:=[ptr gw,.int .u32 (n:Int)]) hw Tryz.func211 rfl kL ?_
 refine Sy.region ?_
 refine sp rfl<|sp rfl<|sS (.int .u64 (n:Int)) (Quiet.pure (λw=>conv_48 w _ _ _ n hn rfl rfl)) ?_
 refine Sy.callT (λw hw=>fixed_any _ gw s R b n 4 (by omega) (by decide) hb hl w hw) (λv M hM=>?_)
 obtain ⟨s1,hs1,rfl⟩:=hM
 refine Sy.nil ?_
 exact Sy.retT0 rfl (WS gw s1 R) (λ_ h=>h) (λ_=>⟨s1,hs1,rfl⟩)
theorem word_w (w0:Base) (gc gw gx f:Nat) (bad:Bool) (s:Slc) (R:Blocks) (b:Byt) (n:Nat) (hn:n<4294967296) (hc:rdC w0 R gx f (.int .u32 (n:Int))) (hb:BS s b) (hl:b.length+4≤70368744177000) (w:World) (hw:St w0 w (CWS gc gw bad s R)) :
  Calls Tryz.prog 177 #[ptr gc,.pointer (some ⟨gx,f,none⟩)] w (Turns w0 (WrC gc gw R true (nb 4 n) 4 bad b)):=by
 have item:∀ w,St w0.inn w (CWS gc gw bad s R)→Calls Tryz.prog 210 #[ptr gc,.pointer (some ⟨gx,f,none⟩),.func (.func 211) #[] #[],.func (.func 212) #[] #[]] w (Turns w0.inn (WrC gc gw R true (nb 4 n) 4 bad b)):=λw hw=>by
  refine Sy.enterT (args:=[ptr gc,.pointer (some ⟨gx,f,none⟩),.func (.func 211) #[] #[],.func (.func 212) #[] #[]]) hw Tryz.func210 rfl kL ?_
  refine sC ?_
  refine sp rfl<|sS (.bool false) (qg (λw hw=>reads_w w0.inn gc _ _ (List.mem_cons_self ..) w hw)) ?_
  refine sG<|sU ?_
  refine Sy.regionD (λj=>j == 8) kR ?_
  refine sa 0 rfl rfl<|sa 1 rfl rfl<|sa 2 rfl rfl<|sb 3 rfl (.pointer (some ⟨gc,0,none⟩))<|sD 4 rfl (ptr gw) (qc 0 0 rfl rfl Tryz.underlying122)<|sa 5 rfl rfl<|sa 6 rfl rfl<|sD 7 rfl (.int .u32 (n:Int)) (cellC (R:=R) hc inCW rfl Tryz.underlying67) ?_
  refine Sy.soleD 8 rfl (λQ2 hq2=>?_)
  refine Sy.callT (λw hw=>word_any w0.inn gw s ((gc,126,#[ptr gw,.pointer none,.bool bad])::R) b n hn hb (by omega) w (hw.perm permCW)) (λu M hM=>?_)
  obtain ⟨s1,hs1,rfl⟩:=hM
  refine Sy.permS permCW.symm ?_
  refine hq2 _ _ ?_
  refine sE ?_
  exact Sy.retT0 rfl (CWS gc gw bad s1 R) (λ_ h=>h) (λ_=>⟨s1,bad,b++nb 4 n,Wrote.raw _ bad b (by rw [nb_len]; exact Nat.le_refl _),hs1,rfl⟩)
 refine Sy.enterT (args:=[ptr gc,.pointer (some ⟨gx,f,none⟩)]) hw Tryz.func177 rfl kL ?_
 refine Sy.region ?_
 refine sp rfl<|sp rfl ?_
 refine Sy.callT (λw hw=>item w hw) (λu M hM=>?_)
 obtain ⟨s1,bad1,b1,h1,h2,rfl⟩:=hM
 refine Sy.nil ?_
 exact Sy.retT0 rfl (CWS gc gw bad1 s1 R) (λ_ h=>h) (λ_=>⟨s1,bad1,b1,h1,h2,rfl⟩)
end Wr
end
section
namespace Sc
open Go.RowKit
def pM:Nat:=115792089237316195423570985008687907852837564279074904382605163141518161494337
theorem pM_eq:pM=115792089237316195423570985008687907852837564279074904382605163141518161494337:=rfl
theorem mod_lt (n:Nat):n%pM<(2^256):=by have:=Nat.mod_lt n (show 0<pM by decide); rw [pM_eq] at this ⊢; omega
theorem red_once (x:Nat) (hx:x<(2^256)):x%pM=if x+432420386565659656852420866394968145599<(2^256) then x else x+432420386565659656852420866394968145599 - (2^256):=by
 rw [pM_eq]
 by_cases h:x+432420386565659656852420866394968145599<(2^256)
 ·rw [if_pos h]; exact Nat.mod_eq_of_lt (by omega)
 ·rw [if_neg h,Nat.mod_eq_sub_mod (by omega),Nat.mod_eq_of_lt (by omega)]
  omega
end Sc
end
section
namespace Sc
open Go.RowKit Go.Lib
theorem order_any (w:World):Calls Tryz.prog 287 #[] w λe w'=>e=.returned (fv 115792089237316195423570985008687907852837564279074904382605163141518161494337)∧Below w.heap.size w w':=by
 go_enter Tryz.func287,Tryz.ntmps287
 go_wp2
 exact bodyPost_ret (results_cell_row rfl _ _ w.heap.size _ _ (0,0) _ rfl (heap_alloc_new w _) Tryz.underlying76 rfl (by kernel_rfl)) rfl ⟨rfl,(Below.refl _ _).alloc (Nat.le_refl _) _⟩
set_option maxHeartbeats 8000000 in
set_option maxRecDepth 100000 in
theorem minus_any (w:World) (x y:Nat) (hx:x<(2^256)) (hy:y<(2^256)):Calls Tryz.prog 286 #[fv x,fv y] w λe w'=>(∃ s k:Nat,s<(2^256)∧k≤1∧s+y=x+(2^256)*k∧e=.returned (.tuple #[fv s,.int .u64 (k:Int)]))∧Below w.heap.size w w':=by
 obtain ⟨x0,x1,x2,x3,a0,a1,a2,a3,ex,fx⟩:=words_of x hx
 obtain ⟨y0,y1,y2,y3,b0,b1,b2,b3,ey,fy⟩:=words_of y hy
 rw [fx,fy]
 obtain ⟨s0,c0,d0,k0,e0,r0⟩:=sub0_ex x0 y0 a0 b0
 obtain ⟨s1,c1,d1,k1,e1,r1⟩:=subc_ex x1 y1 c0 a1 b1 k0
 obtain ⟨s2,c2,d2,k2,e2,r2⟩:=subc_ex x2 y2 c1 a2 b2 k1
 obtain ⟨s3,c3,d3,k3,e3,r3⟩:=subc_ex x3 y3 c2 a3 b3 k2
 have fin:s0+18446744073709551616*s1+340282366920938463463374607431768211456*s2+6277101735386680763835789423207666416102355444464034512896*s3+y=x+(2^256)*c3:=by omega
 have hs:=Lib.hid (fv_mk s0 s1 s2 s3 d0 d1 d2 d3)
 have hlt:=Lib.hid (fv_lt s0 s1 s2 s3 d0 d1 d2 d3)
 have HF:=Lib.hid fin
 have HK:=Lib.hid k3
 clear ex ey fx fy e0 e1 e2 e3 a0 a1 a2 a3 b0 b1 b2 b3 d0 d1 d2 d3 k0 k1 k2 k3 fin hx hy
 go_enter Tryz.func286,Tryz.ntmps286
 go_wp2_with fail
 go_loopw [5,7] (λbo i wr=>Below w.heap.size w wr∧Blk wr w.heap.size 76 #[.int .u64 (x0:Int),.int .u64 (x1:Int),.int .u64 (x2:Int),.int .u64 (x3:Int)]∧Blk wr (w.heap.size+1) 76 #[.int .u64 (y0:Int),.int .u64 (y1:Int),.int .u64 (y2:Int),.int .u64 (y3:Int)]∧Hid ((i=.int .i64 0∧bo=.int .u64 0∧Blk wr (w.heap.size+2) 76 #[.int .u64 0,.int .u64 0,.int .u64 0,.int .u64 0])∨(i=.int .i64 1∧bo=.int .u64 (c0:Int)∧Blk wr (w.heap.size+2) 76 #[.int .u64 (s0:Int),.int .u64 0,.int .u64 0,.int .u64 0])∨(i=.int .i64 2∧bo=.int .u64 (c1:Int)∧Blk wr (w.heap.size+2) 76 #[.int .u64 (s0:Int),.int .u64 (s1:Int),.int .u64 0,.int .u64 0])∨(i=.int .i64 3∧bo=.int .u64 (c2:Int)∧Blk wr (w.heap.size+2) 76 #[.int .u64 (s0:Int),.int .u64 (s1:Int),.int .u64 (s2:Int),.int .u64 0])∨(i=.int .i64 4∧bo=.int .u64 (c3:Int)∧Blk wr (w.heap.size+2) 76 #[.int .u64 (s0:Int),.int .u64 (s1:Int),.int .u64 (s2:Int),.int .u64 (s3:Int)]))) (λ_ i _=>4 - (RowKit.intOf i).toNat)
 case atStart=>exact ⟨below_alloc3 w _ _ _,((Blk.new w _ _).alloc _).alloc _,(blk_new2 w _ _ _).alloc _,Lib.hid (.inl ⟨rfl,rfl,blk_new3 w _ _ _ _⟩)⟩
 case round =>
  obtain ⟨hb,BX,BY,HI⟩:=hrel
  have lX:=BX.lt
  have lY:=BY.lt
  rcases HI.out with ⟨rfl,rfl,BW⟩ | ⟨rfl,rfl,BW⟩ | ⟨rfl,rfl,BW⟩ | ⟨rfl,rfl,BW⟩ | ⟨rfl,rfl,BW⟩
  ·clear HI
   have px:wr.cell? ⟨w.heap.size,0,none⟩=some (.int .u64 (x0:Int)):=BX.cell 0
   have py:wr.cell? ⟨w.heap.size+1,0,none⟩=some (.int .u64 (y0:Int)):=BY.cell 0
   go_wp2
   refine wp_region_G (λj=>j == 13) (by kernel_rfl) ?_
   try simp only [Act.put]
   refine tk 0 rfl ?_
   try simp only [Act.put,aA,aZ,aS]
   refine tk 1 rfl ?_
   try simp only [Act.put,aA,aZ,aS]
   refine tk 2 rfl ?_
   try simp only [Act.put,aA,aZ,aS]
   refine tkw 3 rfl (YieldsG.pure (v:=.int .u64 (x0:Int)) (by rfl) (λw9 h9=>by have hz:=(Below.cell (p:=⟨w.heap.size,0,none⟩) h9 lX).trans px; go_simp; first | done | simp [hz])) ?_
   try simp only [Act.put,aA,aZ,aS]
   refine tk 4 rfl ?_
   try simp only [Act.put,aA,aZ,aS]
   refine tk 5 rfl ?_
   try simp only [Act.put,aA,aZ,aS]
   refine tkw 6 rfl (YieldsG.pure (v:=.int .u64 (y0:Int)) (by rfl) (λw9 h9=>by have hz:=(Below.cell (p:=⟨w.heap.size+1,0,none⟩) h9 lY).trans py; go_simp; first | done | simp [hz])) ?_
   try simp only [Act.put,aA,aZ,aS]
   refine tk 7 rfl ?_
   try simp only [Act.put,aA,aZ,aS]
   refine tkw 8 rfl (YieldsG.pure (v:=.tuple #[.int .u64 (s0:Int),.int .u64 (c0:Int)]) (by rfl) (λw9 h9=>by go_simp)) ?_
   try simp only [Act.put,aA,aZ,aS]
   refine tk 9 rfl ?_
   try simp only [Act.put,aA,aZ,aS]
   refine tk 10 rfl ?_
   try simp only [Act.put,aA,aZ,aS]
   refine wpAnyG_takeA 11 rfl (by kernel_rfl) (λ_ _ _ h=>h) (λ_=>YieldsG.pure (by rfl) (λw9 _=>by go_simp; try with_reducible rfl)) ?_
   try simp only [Act.put,aA,aZ,aS]
   refine tk 12 rfl ?_
   try simp only [Act.put,aA,aZ,aS]
   refine wpAnyG_sole 13 rfl (by kernel_rfl) (by rfl) (λu hu K hK=>?_)
   have BX:=Gr.blk hu BX
   have BY:=Gr.blk hu BY
   have BW:=Gr.blk hu BW
   have hb:=Below.gr hb hu
   have pc:u.cell? ⟨w.heap.size+2,0,none⟩=some (.int .u64 0):=BW.cell 0
   have pf:=BW.frozen 0
   clear hu px py
   go_simp
   refine hK _ _ (λe=>by cases e) ?_
   clear hK K
   have hb:=hb.setCell (p:=⟨w.heap.size+2,0,none⟩) (by show w.heap.size≤w.heap.size+2; omega) (.int .u64 (s0:Int))
   have BX:=BX.far (p:=⟨w.heap.size+2,0,none⟩) (by show w.heap.size≠w.heap.size+2; omega) (.int .u64 (s0:Int))
   have BY:=BY.far (p:=⟨w.heap.size+2,0,none⟩) (by show w.heap.size+1≠w.heap.size+2; omega) (.int .u64 (s0:Int))
   have BW:=BW.set_ 0 (.int .u64 (s0:Int))
   refine wpAnyG_takeA 14 rfl (by kernel_rfl) (λ_ _ _ h=>h) (λ_=>YieldsG.pure (by rfl) (λw9 _=>by go_simp; try with_reducible rfl)) ?_
   try simp only [Act.put,aA,aZ,aS]
   refine wpAnyG_done (by kernel_rfl) (λv hv=>?_)
   have hb:=Below.gr hb hv
   have BX:=Gr.blk hv BX
   have BY:=Gr.blk hv BY
   have BW:=Gr.blk hv BW
   clear hv pc pf
   go_wp2
   refine ⟨⟨hb,BX,BY,Lib.hid (.inr (.inl (⟨rfl,rfl,BW⟩)))⟩,by decide⟩
  ·clear HI
   have px:wr.cell? ⟨w.heap.size,1,none⟩=some (.int .u64 (x1:Int)):=BX.cell 1
   have py:wr.cell? ⟨w.heap.size+1,1,none⟩=some (.int .u64 (y1:Int)):=BY.cell 1
   go_wp2
   refine wp_region_G (λj=>j == 13) (by kernel_rfl) ?_
   try simp only [Act.put]
   refine tk 0 rfl ?_
   try simp only [Act.put,aA,aZ,aS]
   refine tk 1 rfl ?_
   try simp only [Act.put,aA,aZ,aS]
   refine tk 2 rfl ?_
   try simp only [Act.put,aA,aZ,aS]
   refine tkw 3 rfl (YieldsG.pure (v:=.int .u64 (x1:Int)) (by rfl) (λw9 h9=>by have hz:=(Below.cell (p:=⟨w.heap.size,1,none⟩) h9 lX).trans px; go_simp; first | done | simp [hz])) ?_
   try simp only [Act.put,aA,aZ,aS]
   refine tk 4 rfl ?_
   try simp only [Act.put,aA,aZ,aS]
   refine tk 5 rfl ?_
   try simp only [Act.put,aA,aZ,aS]
   refine tkw 6 rfl (YieldsG.pure (v:=.int .u64 (y1:Int)) (by rfl) (λw9 h9=>by have hz:=(Below.cell (p:=⟨w.heap.size+1,1,none⟩) h9 lY).trans py; go_simp; first | done | simp [hz])) ?_
   try simp only [Act.put,aA,aZ,aS]
   refine tk 7 rfl ?_
   try simp only [Act.put,aA,aZ,aS]
   refine tkw 8 rfl (YieldsG.pure (v:=.tuple #[.int .u64 (s1:Int),.int .u64 (c1:Int)]) (by rfl) (λw9 h9=>by go_simp)) ?_
   try simp only [Act.put,aA,aZ,aS]
   refine tk 9 rfl ?_
   try simp only [Act.put,aA,aZ,aS]
   refine tk 10 rfl ?_
   try simp only [Act.put,aA,aZ,aS]
   refine wpAnyG_takeA 11 rfl (by kernel_rfl) (λ_ _ _ h=>h) (λ_=>YieldsG.pure (by rfl) (λw9 _=>by go_simp; try with_reducible rfl)) ?_
   try simp only [Act.put,aA,aZ,aS]
   refine tk 12 rfl ?_
   try simp only [Act.put,aA,aZ,aS]
   refine wpAnyG_sole 13 rfl (by kernel_rfl) (by rfl) (λu hu K hK=>?_)
   have BX:=Gr.blk hu BX
   have BY:=Gr.blk hu BY
   have BW:=Gr.blk hu BW
   have hb:=Below.gr hb hu
   have pc:u.cell? ⟨w.heap.size+2,1,none⟩=some (.int .u64 0):=BW.cell 1
   have pf:=BW.frozen 1
   clear hu px py
   go_simp
   refine hK _ _ (λe=>by cases e) ?_
   clear hK K
   have hb:=hb.setCell (p:=⟨w.heap.size+2,1,none⟩) (by show w.heap.size≤w.heap.size+2; omega) (.int .u64 (s1:Int))
   have BX:=BX.far (p:=⟨w.heap.size+2,1,none⟩) (by show w.heap.size≠w.heap.size+2; omega) (.int .u64 (s1:Int))
   have BY:=BY.far (p:=⟨w.heap.size+2,1,none⟩) (by show w.heap.size+1≠w.heap.size+2; omega) (.int .u64 (s1:Int))
   have BW:=BW.set_ 1 (.int .u64 (s1:Int))
   refine wpAnyG_takeA 14 rfl (by kernel_rfl) (λ_ _ _ h=>h) (λ_=>YieldsG.pure (by rfl) (λw9 _=>by go_simp; try with_reducible rfl)) ?_
   try simp only [Act.put,aA,aZ,aS]
   refine wpAnyG_done (by kernel_rfl) (λv hv=>?_)
   have hb:=Below.gr hb hv
   have BX:=Gr.blk hv BX
   have BY:=Gr.blk hv BY
   have BW:=Gr.blk hv BW
   clear hv pc pf
   go_wp2
   refine ⟨⟨hb,BX,BY,Lib.hid (.inr (.inr (.inl (⟨rfl,rfl,BW⟩))))⟩,by decide⟩
  ·clear HI
   have px:wr.cell? ⟨w.heap.size,2,none⟩=some (.int .u64 (x2:Int)):=BX.cell 2
   have py:wr.cell? ⟨w.heap.size+1,2,none⟩=some (.int .u64 (y2:Int)):=BY.cell 2
   go_wp2
   refine wp_region_G (λj=>j == 13) (by kernel_rfl) ?_
   try simp only [Act.put]
   refine tk 0 rfl ?_
   try simp only [Act.put,aA,aZ,aS]
   refine tk 1 rfl ?_
   try simp only [Act.put,aA,aZ,aS]
   refine tk 2 rfl ?_
   try simp only [Act.put,aA,aZ,aS]
   refine tkw 3 rfl (YieldsG.pure (v:=.int .u64 (x2:Int)) (by rfl) (λw9 h9=>by have hz:=(Below.cell (p:=⟨w.heap.size,2,none⟩) h9 lX).trans px; go_simp; first | done | simp [hz])) ?_
   try simp only [Act.put,aA,aZ,aS]
   refine tk 4 rfl ?_
   try simp only [Act.put,aA,aZ,aS]
   refine tk 5 rfl ?_
   try simp only [Act.put,aA,aZ,aS]
   refine tkw 6 rfl (YieldsG.pure (v:=.int .u64 (y2:Int)) (by rfl) (λw9 h9=>by have hz:=(Below.cell (p:=⟨w.heap.size+1,2,none⟩) h9 lY).trans py; go_simp; first | done | simp [hz])) ?_
   try simp only [Act.put,aA,aZ,aS]
   refine tk 7 rfl ?_
   try simp only [Act.put,aA,aZ,aS]
   refine tkw 8 rfl (YieldsG.pure (v:=.tuple #[.int .u64 (s2:Int),.int .u64 (c2:Int)]) (by rfl) (λw9 h9=>by go_simp)) ?_
   try simp only [Act.put,aA,aZ,aS]
   refine tk 9 rfl ?_
   try simp only [Act.put,aA,aZ,aS]
   refine tk 10 rfl ?_
   try simp only [Act.put,aA,aZ,aS]
   refine wpAnyG_takeA 11 rfl (by kernel_rfl) (λ_ _ _ h=>h) (λ_=>YieldsG.pure (by rfl) (λw9 _=>by go_simp; try with_reducible rfl)) ?_
   try simp only [Act.put,aA,aZ,aS]
   refine tk 12 rfl ?_
   try simp only [Act.put,aA,aZ,aS]
   refine wpAnyG_sole 13 rfl (by kernel_rfl) (by rfl) (λu hu K hK=>?_)
   have BX:=Gr.blk hu BX
   have BY:=Gr.blk hu BY
   have BW:=Gr.blk hu BW
   have hb:=Below.gr hb hu
   have pc:u.cell? ⟨w.heap.size+2,2,none⟩=some (.int .u64 0):=BW.cell 2
   have pf:=BW.frozen 2
   clear hu px py
   go_simp
   refine hK _ _ (λe=>by cases e) ?_
   clear hK K
   have hb:=hb.setCell (p:=⟨w.heap.size+2,2,none⟩) (by show w.heap.size≤w.heap.size+2; omega) (.int .u64 (s2:Int))
   have BX:=BX.far (p:=⟨w.heap.size+2,2,none⟩) (by show w.heap.size≠w.heap.size+2; omega) (.int .u64 (s2:Int))
   have BY:=BY.far (p:=⟨w.heap.size+2,2,none⟩) (by show w.heap.size+1≠w.heap.size+2; omega) (.int .u64 (s2:Int))
   have BW:=BW.set_ 2 (.int .u64 (s2:Int))
   refine wpAnyG_takeA 14 rfl (by kernel_rfl) (λ_ _ _ h=>h) (λ_=>YieldsG.pure (by rfl) (λw9 _=>by go_simp; try with_reducible rfl)) ?_
   try simp only [Act.put,aA,aZ,aS]
   refine wpAnyG_done (by kernel_rfl) (λv hv=>?_)
   have hb:=Below.gr hb hv
   have BX:=Gr.blk hv BX
   have BY:=Gr.blk hv BY
   have BW:=Gr.blk hv BW
   clear hv pc pf
   go_wp2
   refine ⟨⟨hb,BX,BY,Lib.hid (.inr (.inr (.inr (.inl (⟨rfl,rfl,BW⟩)))))⟩,by decide⟩
  ·clear HI
   have px:wr.cell? ⟨w.heap.size,3,none⟩=some (.int .u64 (x3:Int)):=BX.cell 3
   have py:wr.cell? ⟨w.heap.size+1,3,none⟩=some (.int .u64 (y3:Int)):=BY.cell 3
   go_wp2
   refine wp_region_G (λj=>j == 13) (by kernel_rfl) ?_
   try simp only [Act.put]
   refine tk 0 rfl ?_
   try simp only [Act.put,aA,aZ,aS]
   refine tk 1 rfl ?_
   try simp only [Act.put,aA,aZ,aS]
   refine tk 2 rfl ?_
   try simp only [Act.put,aA,aZ,aS]
   refine tkw 3 rfl (YieldsG.pure (v:=.int .u64 (x3:Int)) (by rfl) (λw9 h9=>by have hz:=(Below.cell (p:=⟨w.heap.size,3,none⟩) h9 lX).trans px; go_simp; first | done | simp [hz])) ?_
   try simp only [Act.put,aA,aZ,aS]
   refine tk 4 rfl ?_
   try simp only [Act.put,aA,aZ,aS]
   refine tk 5 rfl ?_
   try simp only [Act.put,aA,aZ,aS]
   refine tkw 6 rfl (YieldsG.pure (v:=.int .u64 (y3:Int)) (by rfl) (λw9 h9=>by have hz:=(Below.cell (p:=⟨w.heap.size+1,3,none⟩) h9 lY).trans py; go_simp; first | done | simp [hz])) ?_
   try simp only [Act.put,aA,aZ,aS]
   refine tk 7 rfl ?_
   try simp only [Act.put,aA,aZ,aS]
   refine tkw 8 rfl (YieldsG.pure (v:=.tuple #[.int .u64 (s3:Int),.int .u64 (c3:Int)]) (by rfl) (λw9 h9=>by go_simp)) ?_
   try simp only [Act.put,aA,aZ,aS]
   refine tk 9 rfl ?_
   try simp only [Act.put,aA,aZ,aS]
   refine tk 10 rfl ?_
   try simp only [Act.put,aA,aZ,aS]
   refine wpAnyG_takeA 11 rfl (by kernel_rfl) (λ_ _ _ h=>h) (λ_=>YieldsG.pure (by rfl) (λw9 _=>by go_simp; try with_reducible rfl)) ?_
   try simp only [Act.put,aA,aZ,aS]
   refine tk 12 rfl ?_
   try simp only [Act.put,aA,aZ,aS]
   refine wpAnyG_sole 13 rfl (by kernel_rfl) (by rfl) (λu hu K hK=>?_)
   have BX:=Gr.blk hu BX
   have BY:=Gr.blk hu BY
   have BW:=Gr.blk hu BW
   have hb:=Below.gr hb hu
   have pc:u.cell? ⟨w.heap.size+2,3,none⟩=some (.int .u64 0):=BW.cell 3
   have pf:=BW.frozen 3
   clear hu px py
   go_simp
   refine hK _ _ (λe=>by cases e) ?_
   clear hK K
   have hb:=hb.setCell (p:=⟨w.heap.size+2,3,none⟩) (by show w.heap.size≤w.heap.size+2; omega) (.int .u64 (s3:Int))
   have BX:=BX.far (p:=⟨w.heap.size+2,3,none⟩) (by show w.heap.size≠w.heap.size+2; omega) (.int .u64 (s3:Int))
   have BY:=BY.far (p:=⟨w.heap.size+2,3,none⟩) (by show w.heap.size+1≠w.heap.size+2; omega) (.int .u64 (s3:Int))
   have BW:=BW.set_ 3 (.int .u64 (s3:Int))
   refine wpAnyG_takeA 14 rfl (by kernel_rfl) (λ_ _ _ h=>h) (λ_=>YieldsG.pure (by rfl) (λw9 _=>by go_simp; try with_reducible rfl)) ?_
   try simp only [Act.put,aA,aZ,aS]
   refine wpAnyG_done (by kernel_rfl) (λv hv=>?_)
   have hb:=Below.gr hb hv
   have BX:=Gr.blk hv BX
   have BY:=Gr.blk hv BY
   have BW:=Gr.blk hv BW
   clear hv pc pf
   go_wp2
   refine ⟨⟨hb,BX,BY,Lib.hid (.inr (.inr (.inr (.inr (⟨rfl,rfl,BW⟩)))))⟩,by decide⟩
  ·clear HI
   obtain ⟨s,hsd⟩:∃ s,s=s0+18446744073709551616*s1+340282366920938463463374607431768211456*s2+6277101735386680763835789423207666416102355444464034512896*s3:=⟨_,rfl⟩
   have hf:=hs.out
   have hl:=hlt.out
   have hn:=HF.out
   rw [← hsd] at hf hl hn
   have BS:=BW.eq_ (fcs_words hf.symm).symm
   have HS:=Lib.hid (And.intro hl hn)
   clear hf hl hn hsd
   go_wp2_with (first | ((with_reducible refine here_load (d:=some 24) ?_); refine wpList_load_fv rfl _ _ rfl (w.heap.size+2) rfl (s) _ _ _ (BS) (fv_fcs s) Tryz.underlying76 rfl (by kernel_rfl) ?_) | ((with_reducible refine here_store ?_); refine wpList_store_blk rfl _ _ _ rfl (w.heap.size+2) (fcs (s)) rfl rfl _ _ (BS) (by kernel_rfl) (by rfl) (fcs_one _) ?_; intro w9 hL9 hB9 hK9))
   exact bodyPost_ret (res_cell_tmp rfl _ _ (w.heap.size+2) _ _ _ _ rfl hL9 rfl Tryz.underlying76 rfl (by kernel_rfl)) rfl ⟨⟨s,c3,HS.out.1,HK.out,HS.out.2,rfl⟩,hb.trans (hB9 _ (by omega))⟩
theorem minus_fv (w:World) (x y s k:Nat) (hx:x<(2^256)) (hy:y<(2^256)) (hs:s<(2^256)) (he:s+y=x+(2^256)*k) :
  Calls Tryz.prog 286 #[fv x,fv y] w λe w'=>e=.returned (.tuple #[fv s,.int .u64 (k:Int)])∧Below w.heap.size w w':=by
 refine (minus_any w x y hx hy).mono ?_
 rintro e w' ⟨⟨s',k',hs',hk',he',rfl⟩,hb⟩
 obtain rfl:k'=k:=by omega
 obtain rfl:s'=s:=by omega
 exact ⟨rfl,hb⟩
theorem order_at (w:World) (p:Nat) (hp:p=115792089237316195423570985008687907852837564279074904382605163141518161494337):Calls Tryz.prog 287 #[] w λe w'=>e=.returned (fv p)∧Below w.heap.size w w':=by
 subst hp; exact order_any w
set_option maxHeartbeats 2000000 in
set_option maxRecDepth 100000 in
theorem reduce_at (w:World) (x k z:Nat) (dk:Int) (hdk:dk=(k:Int)) (hx:x<(2^256)) (hk:k≤1) (h2:x+(2^256)*k<115792089237316195423570985008687907852837564279074904382605163141518161494337+115792089237316195423570985008687907852837564279074904382605163141518161494337) (hz:z=(x+(2^256)*k)%pM):Calls Tryz.prog 257 #[fv x,.int .u64 dk] w λe w'=>e=.returned (fv z)∧Below w.heap.size w w':=by
 subst hdk
 obtain ⟨p,hp⟩:∃ p,p=115792089237316195423570985008687907852837564279074904382605163141518161494337:=⟨_,rfl⟩
 rw [pM_eq, ← hp] at hz
 rw [← hp] at h2
 have hpl:p<(2^256):=by omega
 obtain ⟨s,b,hs,hb,he⟩:∃ s b:Nat,s<(2^256)∧b≤1∧s+p=x+(2^256)*b:=by
  by_cases h:p≤x
  ·exact ⟨x - p,0,by omega,by omega,by omega⟩
  ·exact ⟨x+(2^256) - p,1,by omega,by omega,by omega⟩
 have cm:=λw=>minus_fv w x p s b hx hpl hs he
 have co:=λw=>order_at w p hp
 have t1:b>k→z=x:=λh=>by
  obtain rfl:k=0:=by omega
  rw [hz,Nat.mod_eq_of_lt (by omega)]; omega
 have t2:¬ b>k→z=s:=λh=>by
  rw [hz,Nat.mod_eq_sub_mod (by omega),Nat.mod_eq_of_lt (by omega)]
  rcases (show k=0∨k=1 by omega) with rfl | rfl <;> omega
 obtain ⟨x0,x1,x2,x3,fx⟩:=words_fv x hx
 have FX:=Lib.hid fx
 rw [fx]
 clear fx hx hz hp h2 hpl hs hb he hk
 go_enter Tryz.func257,Tryz.ntmps257
 go_wp2
 refine wp_region_G (λj=>j == 7) (by kernel_rfl) ?_
 try simp only [Act.put]
 refine tkw 0 rfl (YieldsG.loadF (by rfl) _ _ rfl (w.heap.size) rfl (x) _ _ ((Blk.new w _ _).alloc _) (FX.out) Tryz.underlying76 rfl (by kernel_rfl)) ?_
 try simp only [Act.put,aA,aZ,aS]
 refine tkw 1 rfl (YieldsG.call (v:=fv p) (by rfl) 287 _ (λw9=>by go_simp; try (first | with_reducible rfl | rfl)) (λw9 h9=>co w9)) ?_
 try simp only [Act.put,aA,aZ,aS]
 refine tkw 2 rfl (YieldsG.call (v:=.tuple #[fv s,.int .u64 (b:Int)]) (by rfl) 286 _ (λw9=>by go_simp; try (first | with_reducible rfl | rfl)) (λw9 h9=>cm w9)) ?_
 try simp only [Act.put,aA,aZ,aS]
 refine tk 3 rfl ?_
 try simp only [Act.put,aA,aZ,aS]
 refine tk 4 rfl ?_
 try simp only [Act.put,aA,aZ,aS]
 refine wpAnyG_takeA 5 rfl (by kernel_rfl) (λ_ _ _ h=>h) (λ_=>YieldsG.pure (by rfl) (λw9 _=>by go_simp; try with_reducible rfl)) ?_
 try simp only [Act.put,aA,aZ,aS]
 refine wpAnyG_sole 6 rfl (by kernel_rfl) (by rfl) (λw3 h3 K hK=>?_)
 go_simp
 refine hK _ _ (λ_=>gr_alloc _ _) ?_
 clear hK K
 try simp only [Act.put,aA,aZ,aS]
 refine wpAnyG_store 7 rfl (by kernel_rfl) (by rfl) _ _ _ rfl (w3.heap.size) (fcs (s)) rfl rfl _ _ (Blk.new w3 _ _) (by kernel_rfl) (by rfl) (fcs_one _) rfl (λw6 h6 w7 hB7 hL7=>?_)
 try simp only [Act.put]
 refine wpAnyG_takeA 8 rfl (by kernel_rfl) (λ_ _ _ h=>h) (λ_=>YieldsG.pure (by rfl) (λw9 _=>by go_simp; try with_reducible rfl)) ?_
 try simp only [Act.put,aA,aZ,aS]
 refine wpAnyG_done (by kernel_rfl) (λw8 h8=>?_)
 have BS:=Gr.blk h8 hL7
 have hsz:w.heap.size+2≤w3.heap.size:=by have:=h3.size; simp at this; omega
 have BX:Blk w8 w.heap.size 76 _:=Gr.blk h8 (Blk.below (B:=w3.heap.size) (Gr.blk h6 (Blk.alloc (Gr.blk h3 ((Blk.new w _ _).alloc _)) _)) (hB7 _ (Nat.le_refl _)) (by omega))
 have BR:Blk w8 (w.heap.size+1) 76 _:=Gr.blk h8 (Blk.below (B:=w3.heap.size) (Gr.blk h6 (Blk.alloc (Gr.blk h3 (blk_new2 w _ _ _)) _)) (hB7 _ (Nat.le_refl _)) (by omega))
 have hB:Below w.heap.size w w8:=Below.gr ((Below.gr ((Below.gr (below_alloc2 w _ _) h3).alloc (by omega) _) h6).trans (hB7 _ (by omega))) h8
 clear h3 h6 hB7 hL7 h8 cm co
 by_cases hbk:b>k
 ·have HZ:=Lib.hid (t1 hbk)
  have p0:(b:Int)>(k:Int):=by omega
  clear t1 t2 hbk
  go_wp2_with (first | ((with_reducible refine here_load (d:=some 16) ?_); refine wpList_load_fv rfl _ _ rfl (w.heap.size) rfl (x) _ _ _ (BX) (FX.out) Tryz.underlying76 rfl (by kernel_rfl) ?_) | ((with_reducible refine here_store ?_); refine wpList_store_blk rfl _ _ _ rfl (w.heap.size+1) (fcs (x)) rfl rfl _ _ (BR) (by kernel_rfl) (by rfl) (fcs_one _) ?_; intro w9 hL9 hB9 hK9))
  exact bodyPost_ret (results_cell_row rfl _ _ (w.heap.size+1) _ _ (0,0) _ rfl hL9 Tryz.underlying76 rfl (by kernel_rfl)) rfl ⟨by rw [HZ.out]; rfl,hB.trans (hB9 _ (by omega))⟩
 ·have HZ:=Lib.hid (t2 hbk)
  have p0:¬ (b:Int)>(k:Int):=by omega
  clear t1 t2 hbk
  go_wp2_with (first | ((with_reducible refine here_load (d:=some 17) ?_); refine wpList_load_fv rfl _ _ rfl (w3.heap.size) rfl (s) _ _ _ (BS) (fv_fcs s) Tryz.underlying76 rfl (by kernel_rfl) ?_) | ((with_reducible refine here_store ?_); refine wpList_store_blk rfl _ _ _ rfl (w.heap.size+1) (fcs (s)) rfl rfl _ _ (BR) (by kernel_rfl) (by rfl) (fcs_one _) ?_; intro w9 hL9 hB9 hK9))
  exact bodyPost_ret (results_cell_row rfl _ _ (w.heap.size+1) _ _ (0,0) _ rfl hL9 Tryz.underlying76 rfl (by kernel_rfl)) rfl ⟨by rw [HZ.out]; rfl,hB.trans (hB9 _ (by omega))⟩
set_option maxHeartbeats 1000000 in
theorem norm_any (w:World) (x:Nat) (hx:x<(2^256)):Calls Tryz.prog 213 #[fv x] w λe w'=>e=.returned (fv (x%pM))∧Below w.heap.size w w':=by
 obtain ⟨z,hz⟩:∃ z,z=x%pM:=⟨_,rfl⟩
 have cr:=λw=>reduce_at w x 0 z 0 rfl hx (by omega) (by omega) (by rw [hz]; rfl)
 obtain ⟨x0,x1,x2,x3,fx⟩:=words_fv x hx
 have FX:=Lib.hid fx
 rw [fx] at cr ⊢
 rw [← hz]
 clear fx hx hz
 go_enter Tryz.func213,Tryz.ntmps213
 go_wp2_with fail
 refine (cr _).mono ?_
 rintro e w1 ⟨rfl,hb1⟩
 have hg:=Below.gr (below_alloc2 w _ _) hb1
 have hR:Blk w1 (w.heap.size+1) 76 _:=Gr.blk hb1 (blk_new2 w _ _ _)
 go_wp2_with (first | ((with_reducible refine here_store ?_); refine wpList_store_blk rfl _ _ _ rfl (w.heap.size+1) (fcs (z)) rfl rfl _ _ (hR) (by kernel_rfl) (by rfl) (fcs_one _) ?_; intro w4 hL hB4 hK4))
 exact bodyPost_ret (results_cell_row rfl _ _ (w.heap.size+1) _ _ (0,0) _ rfl hL Tryz.underlying76 rfl (by kernel_rfl)) rfl ⟨rfl,hg.trans (hB4 _ (by omega))⟩
set_option maxHeartbeats 8000000 in
set_option maxRecDepth 100000 in
theorem bytes_any (w:World) (x:Nat) (hx:x<(2^256)):Calls Tryz.prog 214 #[fv x] w λe w'=>e=.returned (.agg ((bytesS (x%pM)).map bv).toArray)∧Below w.heap.size w w':=by
 obtain ⟨z,hz⟩:∃ z,z=x%pM:=⟨_,rfl⟩
 have hzl:z<(2^256):=by rw [hz]; exact mod_lt x
 have cn:∀ w,Calls Tryz.prog 213 #[fv x] w λe w'=>e=.returned (fv z)∧Below w.heap.size w w':=by
  intro w; rw [hz]; exact norm_any w x hx
 rw [← hz]
 obtain ⟨z0,z1,z2,z3,a0,a1,a2,a3,ez,fz⟩:=words_of z hzl
 have HZ:=Lib.hid (And.intro a0 (And.intro a1 (And.intro a2 (And.intro a3 ez))))
 have FZ:=Lib.hid fz
 obtain ⟨x0,x1,x2,x3,fx⟩:=words_fv x hx
 rw [fx] at cn ⊢
 clear fx fz hz hzl a0 a1 a2 a3 ez hx
 have hZB:Hid ((List.replicate 32 (Value.int .u8 0)).toArray=((partB z 0).map bv).toArray):=Lib.hid (by simp [partB,lowB,bv])
 go_enter Tryz.func214,Tryz.ntmps214
 go_wp2_with fail
 refine (cn _).mono ?_
 rintro e w1 ⟨rfl,hb⟩
 have BR:Blk w1 (w.heap.size+1) 27 _:=Gr.blk hb (Blk.alloc (blk_new2 w _ _ _) _)
 have BB:Blk w1 (w.heap.size+2) 27 ((partB z 0).map bv).toArray:=Blk.eq_ (Gr.blk hb (blk_new3 w _ _ _ _)) hZB.out
 have hB:=Below.gr (below_alloc3 w _ _ _) hb
 have sz:=BB.lt
 clear hb cn
 go_wp2_with (first | ((with_reducible refine here_store ?_); refine wpList_store_blk rfl _ _ _ rfl (w1.heap.size) (fcs (z)) rfl rfl _ _ (Blk.new w1 _ _) (by kernel_rfl) (by rfl) (fcs_one _) ?_; intro w2 hL2 hB2 hK2; have CR:=hK2 _ (by omega) _ _ (BR.alloc _); have CB:=hK2 _ (by omega) _ _ (BB.alloc _); have hC:=(hB.alloc (by omega) _).trans (hB2 _ (by omega))))
 go_loopw [8] (λi wr=>∃ k:Nat,k≤32∧i=.int .i64 (k:Int)∧Below w.heap.size w wr∧Blk wr (w.heap.size+2) 27 ((partB z k).map bv).toArray∧Blk wr w1.heap.size 76 #[.int .u64 (z0:Int),.int .u64 (z1:Int),.int .u64 (z2:Int),.int .u64 (z3:Int)]∧Blk wr (w.heap.size+1) 27 (List.replicate 32 (Value.int .u8 0)).toArray) (λi _=>32 - (RowKit.intOf i).toNat)
 case atStart=>exact ⟨0,by omega,rfl,hC,CB,hL2.eq_ (fcs_words FZ.out),CR⟩
 case round =>
  obtain ⟨k,hk,rfl,hb,hP,hN,hR⟩:=hrel
  by_cases hlt:k<32
  ·have ce:∀ j,j<32→∃ v,wr.cell? ⟨w.heap.size+1+1,j,none⟩=some v:=λj hj=>⟨_,(hP.cell j).trans (Array.getElem?_eq_getElem (by simp [partB_length z k hk]; exact hj))⟩
   obtain ⟨v,hv⟩:=ce (31 - k) (by omega)
   have ff:=hP.frozen (31 - k)
   have q0:wr.cell? ⟨w1.heap.size,0,none⟩=some (.int .u64 (z0:Int)):=hN.cell 0
   have q1:wr.cell? ⟨w1.heap.size,1,none⟩=some (.int .u64 (z1:Int)):=hN.cell 1
   have q2:wr.cell? ⟨w1.heap.size,2,none⟩=some (.int .u64 (z2:Int)):=hN.cell 2
   have q3:wr.cell? ⟨w1.heap.size,3,none⟩=some (.int .u64 (z3:Int)):=hN.cell 3
   have hPn:=hP.set_ (31 - k) (bv (byteN z k))
   rw [partB_set z k hlt] at hPn
   have HP:=Lib.hid hPn
   clear hPn ce
   have HR:=Lib.hid (And.intro hb (And.intro hN hR))
   clear hb hP hN hR hk
   have hsz:w.heap.size+2<w1.heap.size:=sz
   rcases (show k=0∨k=1∨k=2∨k=3∨k=4∨k=5∨k=6∨k=7∨k=8∨k=9∨k=10∨k=11∨k=12∨k=13∨k=14∨k=15∨k=16∨k=17∨k=18∨k=19∨k=20∨k=21∨k=22∨k=23∨k=24∨k=25∨k=26∨k=27∨k=28∨k=29∨k=30∨k=31 by omega) with rfl | rfl | rfl | rfl | rfl | rfl | rfl | rfl | rfl | rfl | rfl | rfl | rfl | rfl | rfl | rfl | rfl | rfl | rfl | rfl | rfl | rfl | rfl | rfl | rfl | rfl | rfl | rfl | rfl | rfl | rfl | rfl
   all_goals
    go_wp2
    obtain ⟨a0,a1,a2,a3,ez⟩:=HZ.out
    refine ⟨⟨_,by decide,rfl,HR.out.1.setCell (by show w.heap.size≤w.heap.size+1+1; omega) _,HP.out.val (by rw [bv_byteN]; congr 1; omega),HR.out.2.1.far (by show w1.heap.size≠w.heap.size+1+1; omega) _,HR.out.2.2.far (by show w.heap.size+1≠w.heap.size+1+1; omega) _⟩,by simp [RowKit.intOf]⟩
  ·have p1:¬ (k:Int)<32:=by omega
   obtain rfl:k=32:=by omega
   rw [partB_full] at hP
   have HI:=Lib.hid (bytesS_length z)
   have HL:=Lib.hid hP
   have HR:=Lib.hid hR
   clear hN hP hR
   go_wp2_with (first | ((with_reducible refine here_load (d:=some 24) ?_); refine wpList_load_blk rfl _ _ rfl (w.heap.size+2) rfl _ _ _ HL.out Tryz.underlying27 rfl (b32_info HI.out) ?_) | ((with_reducible refine here_store ?_); refine wpList_store_blk rfl _ _ _ rfl (w.heap.size+1) ((bytesS z).map bv).toArray rfl rfl _ _ HR.out (b32_info HI.out) (by simp [HI.out]) (b32_one _) ?_; intro w9 hL9 hB9 hK9))
   exact bodyPost_ret (results_cell_row rfl _ _ (w.heap.size+1) _ _ (0,0) _ rfl hL9 Tryz.underlying27 rfl (b32_info HI.out)) rfl ⟨rfl,hb.trans (hB9 _ (by omega))⟩
end Sc
end
section
namespace Sc
open Go.RowKit Go.Lib
end Sc
end
section
namespace Sc
open Go.RowKit Go.Lib
set_option maxRecDepth 100000
end Sc
end
section
namespace Sc
open Go.RowKit Go.Lib
theorem run_equalIn_fv (W:World) (n m:Nat) (hn:n<(2^256)) (hm:m<(2^256)):(Op.equalIn 10000 76 (fv n) (fv m)).run Tryz.prog W=.ok (decide (n=m)) W:=by
 rw [fv_wl,fv_wl]
 have h:=run_equalIn_words W 9998 76 22 4 Tryz.underlying76 Tryz.underlying22 (λW=>by kernel_rfl) (wl n) (wl m) rfl rfl
 rw [wl_beq hn hm] at h
 exact h
theorem run_eql_fv (W:World) (n m:Nat) (hn:n<(2^256)) (hm:m<(2^256)):(binOp .eql 76 (fv n) (fv m)).run Tryz.prog W=.ok (.bool (decide (n=m))) W:=by
 have h:=run_equalIn_fv W n m hn hm
 rw [fv_wl,fv_wl] at h ⊢
 rw [run_eql_struct,h]
 rfl
theorem run_eqGuard_fv (op:BinOp) (x y:Operand) (n m:Nat) (W:World):(eqGuard op 76 x y (fv n) (fv m)).run Tryz.prog W=.ok () W:=by
 rw [fv_fcs,fv_fcs]
 go_simp
end Sc
end
section
namespace Sc
open Go.RowKit Go.Lib
end Sc
end
section
namespace Wr
open Go.RowKit Sy
set_option maxRecDepth 100000
set_option maxHeartbeats 4000000
def okSC (n:Nat):Bool:=decide (n%Sc.pM=n)
def encSC (n:Nat):Byt:=bytesS (n%Sc.pM)
def repSC (_:Rdr) (cs:List Value) (n:Nat):Prop:=cs=Cu.fws n∧n<Cu.K4
def nulAM (a:MAmt):Bool:=(!a.blind && decide (a.value=0)) && nulPT a.pt
structure MIs where
 kind:Int
 amount:MAmt
 range:Byt
 tokens:Nat
 entropy:Byt
 blind:Nat
def zAM:MAmt:=⟨false,0,⟨0,0,false⟩⟩
def nulIS (i:MIs):Bool:=nulAM i.amount && (decide (i.range.length=0) && (decide (i.tokens=0) && (decide (i.entropy=z32) && decide (i.blind=0))))
def fulIS (i:MIs):Bool:=okAM i.amount && (decide (i.range.length≤6000) && okSC i.blind)
def okIS (i:MIs):Bool:=if i.kind=0 then nulIS i else if i.kind=1∨i.kind=2 then fulIS i else false
def bodyIS (i:MIs):Byt:=encAM i.amount++(encT i.range++(nb 8 i.tokens++(i.entropy++encSC i.blind)))
def encIS (i:MIs):Byt:=[octB i.kind]++(if i.kind=0 then [] else bodyIS i)
def wtIS (i:MIs):Nat:=1+(34+((9+i.range.length)+(8+(32+32))))
def cIS (i:MIs) (vr:Value):List Value:=[.int .i64 i.kind]++(cAM i.amount++([vr]++([.int .u64 (i.tokens:Int)]++(i.entropy.map bv++Cu.fws i.blind))))
def repIS (C:Rdr) (cs:List Value) (i:MIs):Prop:=∃ vr,cs=cIS i vr∧(i.amount.value<18446744073709551616∧i.amount.pt.x<Cu.K4∧i.amount.pt.y<Cu.K4)∧BytR C vr i.range∧i.tokens<18446744073709551616∧i.entropy.length=32∧i.blind<Cu.K4
theorem monoIS:Mono repIS:=λhl ⟨vr,h0,h1,h2,h3,h4,h5⟩=>⟨vr,h0,h1,h2.le hl,h3,h4,h5⟩
theorem fws_len (n:Nat):(Cu.fws n).length=4:=rfl
theorem lenIS {C:Rdr} {cs:List Value} {t:MIs} (h:repIS C cs t):cs.length=50:=by
 obtain ⟨vr,rfl,h1,h2,h3,h4,h5⟩:=h
 simp only [cIS,cAM,List.length_append,List.length_map,h4,fws_len,lPT_len]; rfl
structure MPg where
 header:Byt
 tx:Byt
 place:Nat
 many:Nat
 path:List Byt
 script:Byt
def nulPG (p:MPg):Bool:=decide (p.header=z32) && (decide (p.tx.length=0) && (decide (p.place=0) && (decide (p.many=0) && (decide (p.path.length=0) && decide (p.script.length=0)))))
def okPG (p:MPg):Bool:=decide (p.tx.length≤1024) && (decide (p.path.length≤32) && decide (p.script.length≤256))
def encPG (p:MPg):Byt:=p.header++(encT p.tx++(nb 4 p.place++(nb 4 p.many++(encL (λd=>d) p.path++encT p.script))))
def wtPG (p:MPg):Nat:=32+((9+p.tx.length)+(4+(4+((9+(p.path.map λ_=>32).sum)+(9+p.script.length)))))
def cPG (p:MPg) (vt vp vs:Value):List Value:=p.header.map bv++([vt]++([.int .u32 (p.place:Int)]++([.int .u32 (p.many:Int)]++([vp]++[vs]))))
def repPG (C:Rdr) (cs:List Value) (p:MPg):Prop:=∃ vt vp vs,cs=cPG p vt vp vs∧p.header.length=32∧BytR C vt p.tx∧p.place<4294967296∧p.many<4294967296∧LstR C 32 repDG vp p.path∧BytR C vs p.script
theorem monoPG:Mono repPG:=λhl ⟨vt,vp,vs,h0,h1,h2,h3,h4,h5,h6⟩=>⟨vt,vp,vs,h0,h1,h2.le hl,h3,h4,LstR.le (rep:=repDG) monoDG hl h5,h6.le hl⟩
theorem lenPG {C:Rdr} {cs:List Value} {t:MPg} (h:repPG C cs t):cs.length=37:=by
 obtain ⟨vt,vp,vs,rfl,h1,_⟩:=h
 simp only [cPG,List.length_append,List.length_map,h1]; rfl
theorem monoTT:Mono repY:=λhl ⟨v,h0,h1⟩=>⟨v,h0,h1.le hl⟩
def ok256 (x:Byt):Bool:=decide (x.length≤256)
def wtT (x:Byt):Nat:=9+x.length
structure MIn where
 kind:Int
 prev:Byt
 index:Nat
 issue:MIs
 peg:MPg
 wit:List Byt
def okW (l:List Byt):Bool:=decide (l.length≤16) && l.all ok256
def okK2 (k:Int):Bool:=decide (1≤k) && decide (k≤2)
def okIN (i:MIn):Bool:=okK2 i.kind && (okIS i.issue && ((if i.kind=2 then okPG i.peg else nulPG i.peg) && okW i.wit))
def encIN (i:MIn):Byt:=[octB i.kind]++(i.prev++(nb 4 i.index++(encIS i.issue++((if i.kind=2 then encPG i.peg else [])++encL encT i.wit))))
def wtIN (i:MIn):Nat:=1+(36+(wtIS i.issue+(wtPG i.peg+(9+(i.wit.map wtT).sum))))
def repIN (C:Rdr) (cs:List Value) (i:MIn):Prop:=∃ ci cg vw,cs=[.int .i64 i.kind]++((i.prev.map bv++[.int .u32 (i.index:Int)])++(ci++(cg++[vw])))∧i.prev.length=32∧i.index<4294967296∧repIS C ci i.issue∧repPG C cg i.peg∧LstR C 1 repY vw i.wit
theorem monoIN:Mono repIN:=λhl ⟨ci,cg,vw,h0,h1,h2,h3,h4,h5⟩=>⟨ci,cg,vw,h0,h1,h2,monoIS hl h3,monoPG hl h4,LstR.le (rep:=repY) monoTT hl h5⟩
structure MTr where
 after:Nat
 ins:List MIn
 outs:List MOu
def okTR (t:MTr):Bool:=(decide (t.ins.length≤16) && t.ins.all okIN) && (decide (t.outs.length≤16) && t.outs.all okOU)
def encTR (t:MTr):Byt:=nb 8 t.after++(encL encIN t.ins++encL encOU t.outs)
def wtTR (t:MTr):Nat:=8+((9+(t.ins.map wtIN).sum)+(9+(t.outs.map wtOU).sum))
def repTR (C:Rdr) (cs:List Value) (t:MTr):Prop:=∃ vi vo,cs=[.int .u64 (t.after:Int)]++([vi]++[vo])∧t.after<18446744073709551616∧LstR C 122 repIN vi t.ins∧LstR C 58 repOU vo t.outs
theorem monoTR:Mono repTR:=λhl ⟨vi,vo,h0,h1,h2,h3⟩=>⟨vi,vo,h0,h1,LstR.le (rep:=repIN) monoIN hl h2,LstR.le (rep:=repOU) monoOU hl h3⟩
theorem lenTR {C:Rdr} {cs:List Value} {t:MTr} (h:repTR C cs t):cs.length=3:=by obtain ⟨vi,vo,rfl,_⟩:=h; rfl
structure MSg where
 key:Int
 sig:Byt
def repSG (_:Rdr) (cs:List Value) (s:MSg):Prop:=cs=[.int .i64 s.key]++s.sig.map bv∧s.sig.length=64
structure MBl where
 header:MHe
 sigs:List MSg
 txs:List MTr
def wtBL (b:MBl):Nat:=wtHE b.header+((9+(b.sigs.map λ_=>65).sum)+(9+(b.txs.map wtTR).sum))
def repBL (C:Rdr) (cs:List Value) (b:MBl):Prop:=∃ ch vs vt,cs=ch++([vs]++[vt])∧repHE C ch b.header∧LstR C 65 repSG vs b.sigs∧LstR C 3 repTR vt b.txs
theorem lenHE {C:Rdr} {cs:List Value} {t:MHe} (h:repHE C cs t):cs.length=102:=by
 obtain ⟨vr,vk,rfl,h1,h2,h3,_⟩:=h
 simp only [cHE,List.length_append,List.length_map,h1,h2,h3]; rfl
theorem lenBL {C:Rdr} {cs:List Value} {t:MBl} (h:repBL C cs t):cs.length=104:=by
 obtain ⟨ch,vs,vt,rfl,h1,_⟩:=h
 rw [List.length_append,lenHE h1]; rfl
theorem okK2_of {z:Int} (h:¬ (z=1∨z=2)):okK2 z=false:=by
 cases hb:okK2 z with
 | false=>rfl
 | true =>
  unfold okK2 at hb
  rw [Bool.and_eq_true,decide_eq_true_eq,decide_eq_true_eq] at hb
  exact (h (by omega)).elim
end Wr
end
section
namespace Wr
open Go.RowKit Sy
set_option maxRecDepth 100000
set_option maxHeartbeats 4000000
theorem digestC_w:PutC 130 32 repDG (λ_=>true) (λx=>x) (λ_=>32):=λw0 gc gw gx f bad s R b cs x hx _ hc hb hl w hw=>by
 obtain ⟨rfl,h1⟩:=hx
 exact digest_w w0 gc gw gx f bad s R b x h1 hc hb (by omega) w hw
noncomputable def inf_dgs:TypeInfo:=(Tryz.prog.info? 28).getD default
theorem info_dgs:Tryz.prog.info? 28=some inf_dgs:=by kernel_rfl
noncomputable def K_dgs:LK:=⟨28,79,296,237,297,346,348,379,378,408,180,216,217,218,219,259,288,130,32,32,Z32,inf_dgs⟩
theorem ok_dgs:K_dgs.Ok:={
 c_f0:=⟨_,_,Tryz.func180⟩,
 c_fL:=⟨_,_,Tryz.func216⟩,
 c_f1:=⟨_,_,Tryz.func217⟩,
 c_fP:=⟨_,_,Tryz.func218⟩,
 c_f2:=⟨_,_,Tryz.func219⟩,
 c_fI:=⟨_,_,Tryz.func259⟩,
 c_fJ:=⟨_,_,Tryz.func288⟩,
 ute:=⟨_,Tryz.underlying28,rfl⟩,
 uts:=Tryz.underlying79,
 ufw:=⟨_,Tryz.underlying297,rfl⟩,
 ufr:=⟨_,Tryz.underlying346,rfl⟩,
 inf:=info_dgs,
 zero:=⟨_,rfl,by kernel_rfl⟩,
 size:=rfl,
 byt:=rfl,
 zl:=by kernel_rfl,
 pos:=(by decide:0<32),
 top:=(by decide:32≤16777216),
 btop:=(by decide:32≤100000000),
 its:=by kernel_rfl,
 ifw:=by kernel_rfl,
 ifr:=by kernel_rfl,
 zts:=⟨(Tryz.prog.info? 79).getD default,by kernel_rfl,by kernel_rfl⟩,
 e_fe:=enters_of Tryz.func130 kR rfl,
 e_f2:=enters_of Tryz.func219 kR rfl,
 e_fP:=enters_of Tryz.func218 kR rfl,
 e_f1:=enters_of Tryz.func217 kR rfl,
 e_fL:=enters_of Tryz.func216 kR rfl,
 e_fI:=enters_of Tryz.func259 kR rfl,
 e_fJ:=enters_of Tryz.func288 kR rfl }
theorem list_w_dgs {α:Type} {rep:Rdr→List Value→α→Prop} {ok:α→Bool} {enc:α→Byt} {wt:α→Nat} (hm:Mono rep) (hp:PutC 130 32 rep ok enc wt) (w0:Base) (gc gw gx f most:Nat) (hmo:most<1000000) (bad:Bool) (s:Slc) (R:Blocks) (b:Byt) (v:Value) (l:List α) (hv:LstR (rdC w0 R) 32 rep v l) (hc:rdC w0 R gx f v) (hb:BS s b) (hlen:b.length+(9+(l.map wt).sum)≤70368744170000) (w:World) (hw:St w0 w (CWS gc gw bad s R)) :
  Calls Tryz.prog 180 #[ptr gc,.pointer (some ⟨gx,f,none⟩),.int .i64 (most:Int),.func (.func 130) #[] #[]] w (Turns w0 (WrC gc gw R (decide (l.length≤most) && l.all ok) (varB l.length++l.flatMap enc) (9+(l.map wt).sum) bad b)):=list_wG (rep:=rep) (ok:=ok) (enc:=enc) (wt:=wt) ok_dgs hm hp.own w0 gc gw gx f most hmo bad s R b v l hv hc hb hlen w hw
end Wr
end
section
namespace Wr
open Go.RowKit Sy
set_option maxRecDepth 100000
set_option maxHeartbeats 4000000
def repOP (_:Rdr) (cs:List Value) (x:Byt×Nat):Prop:=cs=x.1.map bv++[.int .u32 (x.2:Int)]∧x.1.length=32∧x.2<4294967296
def encOP (x:Byt×Nat):Byt:=x.1++nb 4 x.2
theorem outpoint_w:PutC 114 33 repOP (λ_=>true) encOP (λ_=>36):=λw0 gc gw gx f bad s R b cs x hx _ hc hb hl w hw=>by
 obtain ⟨rfl,h1,h2⟩:=hx
 have e1:(x.1.map bv).length=32:=by rw [List.length_map,h1]
 have c0:XAt (rdC w0 R) gx f (x.1.map bv++[.int .u32 (x.2:Int)]):=hc
 have c1:XAt (rdC w0 R) gx (f+32) [.int .u32 (x.2:Int)]:=c0.right e1
 dsimp only at hl
 refine Sy.enterT (args:=[ptr gc,.pointer (some ⟨gx,f,none⟩)]) hw Tryz.func114 rfl kL ?_
 refine sC ?_
 refine sp rfl<|sp rfl<|sp rfl<|sP (.pointer (some ⟨gx,f,none⟩)) ?_
 refine Sy.callT (λw hw=>digest_w w0.inn gc gw gx f bad s R b x.1 h1 c0.left hb (by omega) w hw) (λu M hM=>?_)
 obtain ⟨s1,bad1,b1,q1,p1,rfl⟩:=hM
 have l1:b1.length≤b.length+32:=q1.len
 refine Sy.nil<|Sy.then_<|Sy.region ?_
 refine sp rfl<|sp rfl<|sp rfl<|sP (.pointer (some ⟨gx,f+32,none⟩)) ?_
 refine Sy.callT (λw hw=>word_w w0.inn gc gw gx (f+32) bad1 s1 R b1 x.2 h2 c1.one p1 (by omega) w hw) (λu M hM=>?_)
 obtain ⟨s2,bad2,b2,q2,p2,rfl⟩:=hM
 have l2:b2.length≤b1.length+4:=q2.len
 refine Sy.nil ?_
 have q:=q1.then_ q2
 simp only [Bool.true_and] at q
 exact Sy.retT0 rfl (CWS gc gw bad2 s2 R) (λ_ h=>h) (λ_=>⟨s2,bad2,b2,q,p2,rfl⟩)
theorem peg_w:PutC 117 37 repPG okPG encPG wtPG:=λw0 gc gw gx f bad s R b cs x hx _ hc hb hl w hw=>by
 obtain ⟨hd,tx,pl,mn,pa,sc⟩:=x
 obtain ⟨vt,vp,vs,rfl,h1,h2,h3,h4,h5,h6⟩:=hx
 dsimp only at h1 h2 h3 h4 h5 h6
 unfold wtPG at hl
 dsimp only at hl
 have e1:(hd.map bv).length=32:=by rw [List.length_map,h1]
 have c0:XAt (rdC w0 R) gx f (hd.map bv++([vt]++([.int .u32 (pl:Int)]++([.int .u32 (mn:Int)]++([vp]++[vs]))))):=hc
 have c1:XAt (rdC w0 R) gx (f+32) ([vt]++([.int .u32 (pl:Int)]++([.int .u32 (mn:Int)]++([vp]++[vs])))):=c0.right e1
 have c2:XAt (rdC w0 R) gx (f+33) ([.int .u32 (pl:Int)]++([.int .u32 (mn:Int)]++([vp]++[vs]))):=c1.right (n:=1) rfl
 have c3:XAt (rdC w0 R) gx (f+34) ([.int .u32 (mn:Int)]++([vp]++[vs])):=c2.right (n:=1) rfl
 have c4:XAt (rdC w0 R) gx (f+35) ([vp]++[vs]):=c3.right (n:=1) rfl
 have c5:XAt (rdC w0 R) gx (f+36) [vs]:=c4.right (n:=1) rfl
 refine Sy.enterT (args:=[ptr gc,.pointer (some ⟨gx,f,none⟩)]) hw Tryz.func117 rfl kL ?_
 refine sC ?_
 refine sp rfl<|sp rfl<|sp rfl<|sP (.pointer (some ⟨gx,f,none⟩)) ?_
 refine Sy.callT (λw hw=>digest_w w0.inn gc gw gx f bad s R b hd h1 c0.left hb (by omega) w hw) (λu M hM=>?_)
 obtain ⟨s1,bad1,b1,q1,p1,rfl⟩:=hM
 have l1:b1.length≤b.length+32:=q1.len
 refine sA ?_
 refine sp rfl<|sp rfl<|sp rfl<|sP (.pointer (some ⟨gx,f+32,none⟩)) ?_
 refine Sy.callT (λw hw=>text_w w0.inn gc gw gx (f+32) bad1 s1 R b1 tx vt 1024 (by decide) h2 c1.one p1 (by omega) w hw) (λu M hM=>?_)
 obtain ⟨s2,bad2,b2,q2,p2,rfl⟩:=hM
 have l2:b2.length≤b1.length+(9+tx.length):=q2.len
 refine sA ?_
 refine sp rfl<|sp rfl<|sp rfl<|sP (.pointer (some ⟨gx,f+33,none⟩)) ?_
 refine Sy.callT (λw hw=>word_w w0.inn gc gw gx (f+33) bad2 s2 R b2 pl h3 c2.one p2 (by omega) w hw) (λu M hM=>?_)
 obtain ⟨s3,bad3,b3,q3,p3,rfl⟩:=hM
 have l3:b3.length≤b2.length+4:=q3.len
 refine sA ?_
 refine sp rfl<|sp rfl<|sp rfl<|sP (.pointer (some ⟨gx,f+34,none⟩)) ?_
 refine Sy.callT (λw hw=>word_w w0.inn gc gw gx (f+34) bad3 s3 R b3 mn h4 c3.one p3 (by omega) w hw) (λu M hM=>?_)
 obtain ⟨s4,bad4,b4,q4,p4,rfl⟩:=hM
 have l4:b4.length≤b3.length+4:=q4.len
 refine sA ?_
 refine sp rfl<|sp rfl<|sp rfl<|sP (.pointer (some ⟨gx,f+35,none⟩)) ?_
 refine Sy.callT (λw hw=>list_w_dgs (rep:=repDG) monoDG digestC_w w0.inn gc gw gx (f+35) 32 (by decide) bad4 s4 R b4 vp pa h5 c4.one p4 (by omega) w hw) (λu M hM=>?_)
 obtain ⟨s5,bad5,b5,q5,p5,rfl⟩:=hM
 have l5:b5.length≤b4.length+(9+(pa.map λ_=>32).sum):=q5.len
 refine Sy.nil<|Sy.then_<|Sy.region ?_
 refine sp rfl<|sp rfl<|sp rfl<|sP (.pointer (some ⟨gx,f+36,none⟩)) ?_
 refine Sy.callT (λw hw=>text_w w0.inn gc gw gx (f+36) bad5 s5 R b5 sc vs 256 (by decide) h6 c5.one p5 (by omega) w hw) (λu M hM=>?_)
 obtain ⟨s6,bad6,b6,q6,p6,rfl⟩:=hM
 have l6:b6.length≤b5.length+(9+sc.length):=q6.len
 refine Sy.nil ?_
 have q:=q1.then_ (q2.then_ (q3.then_ (q4.then_ (q5.then_ q6))))
 simp only [Bool.true_and,all_true,Bool.and_true] at q
 exact Sy.retT0 rfl (CWS gc gw bad6 s6 R) (λ_ h=>h) (λ_=>⟨s6,bad6,b6,q,p6,rfl⟩)
end Wr
end
section
namespace Wr
open Go.RowKit Sy
set_option maxRecDepth 100000
set_option maxHeartbeats 4000000
abbrev hd1 (cs:List Value):Value:=cs.headD (.slice none 0 0)
theorem one_y {C:Rdr} {cs:List Value} {x:Byt} (h:repY C cs x):∃ A n cp,cs=[Value.slice A n cp]:=by
 obtain ⟨v,rfl,A,n,cp,rfl,_⟩:=h
 exact ⟨A,n,cp,rfl⟩
theorem witness_w:PutC 119 1 repY ok256 encT wtT:=λw0 gc gw gx f bad s R b cs x hx _ hc hb hl w hw=>by
 obtain ⟨v,rfl,h1⟩:=hx
 refine Sy.enterT (args:=[ptr gc,.pointer (some ⟨gx,f,none⟩)]) hw Tryz.func119 rfl kL ?_
 refine Sy.region ?_
 refine sp rfl<|sp rfl ?_
 refine Sy.callT (λw hw=>text_w w0.inn gc gw gx f bad s R b x v 256 (by decide) h1 hc.one hb (by unfold wtT at hl; omega) w hw) (λu M hM=>?_)
 obtain ⟨s1,bad1,b1,k1,k2,rfl⟩:=hM
 refine Sy.nil ?_
 exact Sy.retT0 rfl (CWS gc gw bad1 s1 R) (λ_ h=>h) (λ_=>⟨s1,bad1,b1,k1,k2,rfl⟩)
section
variable {α:Type} {rep:Rdr→List Value→α→Prop} {ok:α→Bool} {enc:α→Byt} {wt:α→Nat}
theorem el_w_wit (h1:∀ {C cs x},rep C cs x→∃ A n cp,cs=[Value.slice A n cp]) (hm:Mono rep) (hp:PutC 119 1 rep ok enc wt) (w0:Base) (gc gw g4 g7:Nat) (bad:Bool) (s:Slc) (R:Blocks) (b:Byt) (u:Value) (cs:List Value) (x:α) (h4:(g4,94,#[ptr gc])∈R) (h7:(g7,217,#[.func (.func 119) #[] #[]])∈R) (hx:rep (rdC w0 R) cs x) (hl:cs.length=1) (hb:BS s b) (hlen:b.length+wt x≤70368744170000) (w:World) (hw:St w0 w (CWS gc gw bad s R)) :
  Calls Tryz.prog 184 #[u,hd1 cs,ptr g7,ptr g4] w (Turns w0 (WrC gc gw R (ok x) (enc x) (wt x) bad b)):=by
 obtain ⟨A,n,cp,rfl⟩:=h1 hx
 refine Sy.enterT (args:=[u,.slice A n cp,ptr g7,ptr g4]) hw Tryz.func184 rfl kL ?_
 refine sC ?_
 refine sM 29 [Value.slice A n cp].toArray (λg5=>?_)
 refine Sy.permS (List.Perm.of_eq eqCW) ?_
 refine Sy.nil<|Sy.then_<|Sy.region ?_
 refine sS (.func (.func 119) #[] #[]) (cellC (R:=R++[(g5,29,[Value.slice A n cp].toArray)]) (mem1 (inA h7)) inCW rfl Tryz.underlying217)<|sS (ptr gc) (cellC (R:=R++[(g5,29,[Value.slice A n cp].toArray)]) (mem1 (inA h4)) inCW rfl Tryz.underlying94) ?_
 refine Sy.callT (λw hw=>hp w0.inn gc gw g5 0 bad s (R++[(g5,29,[Value.slice A n cp].toArray)]) b [Value.slice A n cp] x (hm (rdC_le (λ_ h=>inA h)) hx) hl (memX lastR) hb hlen w hw) (λv M hM=>?_)
 obtain ⟨s1,bad1,b1,h1,h2,rfl⟩:=hM
 refine Sy.nil ?_
 exact Sy.retT0 rfl (CWS gc gw bad1 s1 R) (λ_ h=>dropR h) (λ_=>⟨s1,bad1,b1,h1,h2,rfl⟩)
end
section
variable {α:Type} {rep:Rdr→List Value→α→Prop} {ok:α→Bool} {enc:α→Byt} {wt:α→Nat}
theorem put_w_wit (h1:∀ {C cs x},rep C cs x→∃ A n cp,cs=[Value.slice A n cp]) (hm:Mono rep) (hp:PutC 119 1 rep ok enc wt) (w0:Base) (gc gw g4 g7:Nat) (bad:Bool) (s:Slc) (R:Blocks) (b:Byt) (v:Value) (l:List α) (h4:(g4,94,#[ptr gc])∈R) (h7:(g7,217,#[.func (.func 119) #[] #[]])∈R) (hv:LstR (rdC w0 R) 1 rep v l) (hb:BS s b) (hlen:b.length+(9+(l.map wt).sum)≤70368744170000) (w:World) (hw:St w0 w (CWS gc gw bad s R)) :
  Calls Tryz.prog 183 #[ptr gw,v,.func (.func 184) #[] #[ptr g7,ptr g4]] w (Turns w0 (WrC gc gw R (l.all ok) (varB l.length++l.flatMap enc) (9+(l.map wt).sum) bad b)):=by
 obtain ⟨A,n,cp,rfl,h2,h3,h4',h5⟩:=hv
 have hmx:n<9223372036854775808:=by simp only [maxLen] at h4'; omega
 refine Sy.enterT (args:=[ptr gw,.slice A n cp,.func (.func 184) #[] #[ptr g7,ptr g4]]) hw Tryz.func183 rfl kL ?_
 refine sC ?_
 refine sp rfl<|sp rfl<|sP (.int .i64 (n:Int))<|sS (.int .u64 (n:Int)) (Quiet.pure (λw=>conv_i6 w _ _ _ n (by omega) rfl rfl)) ?_
 refine Sy.callT (λw hw=>var_any w0.inn gw s ((gc,126,#[ptr gw,.pointer none,.bool bad])::R) b n (by omega) hb (by omega) w (hw.perm permCW)) (λu M hM=>?_)
 obtain ⟨s1,hs1,rfl⟩:=hM
 have hn9:=varB_len n
 refine Sy.permS permCW.symm ?_
 refine Sy.nil<|sB ?_
 refine sp rfl<|sP (.int .i64 (n:Int))<|sP (.int .i64 0) ?_
 refine sG<|Sy.block ?_
 have hw0:Wrote true (varB n) 9 bad b bad (b++varB n):=Wrote.raw _ _ _ hn9
 have hsum:∀ i,((l.take i).map wt).sum≤(l.map wt).sum:=λi=>by
  have e:=congrArg (λz=>(z.map wt).sum) (List.take_append_drop i l)
  simp only [List.map_append,List.sum_append] at e
  omega
 refine Sy.loopT (Y:=Slc×Bool×Byt) n (λi y=>[(0,ptr gw),(2,.func (.func 184) #[] #[ptr g7,ptr g4]),(13,.slice A n cp),(14,.int .i64 (n:Int)),(15,.int .i64 (i:Int))]) (λi y=>CWS gc gw y.2.1 y.1 R) (λi y=>Wrote ((l.take i).all ok) (varB n++(l.take i).flatMap enc) (9+((l.take i).map wt).sum) bad b y.2.1 y.2.2∧BS y.1 y.2.2) (s1,bad,b++varB n) ⟨by
  have e:Wrote ((l.take 0).all ok) (varB n++(l.take 0).flatMap enc) (9+((l.take 0).map wt).sum) bad b bad (b++varB n):=by
   rw [List.take_zero]
   simpa using hw0
  exact e,hs1⟩ (all_cons kR (all_cons kR (all_cons kR (all_cons kR (all_cons kR all_nil))))) (λ_ h=>h) (λi y hi hy=>?_)
 obtain ⟨sy,bady,by_⟩:=y
 obtain ⟨hy,hsy⟩:=hy
 dsimp only at hy hsy ⊢
 refine sC ?_
 obtain ⟨b2,hb2⟩:∃ z:Bool,z=decide (i<n):=⟨_,rfl⟩
 refine sS (.bool b2) (Quiet.pure (exec_int .lss _ _ _ .i64 _ _ _ rfl rfl rfl (int_lss _ _ _ _ _ (by rw [hb2]; exact decide_eq_decide.2 (by omega))))) ?_
 refine sG<|Sy.seq ?_
 cases b2
 case' false =>
  have l2:¬ i<n:=of_decide_eq_false hb2.symm
  obtain rfl:i=n:=by omega
  rw [List.take_of_length_le (by omega)] at hy
  refine sU<|Sy.exit<|Sy.then_exit<|Sy.then_exit<|Sy.in_exit ?_
  rw [h2]
  exact Sy.retT0 rfl (CWS gc gw bady sy R) (λ_ h=>h) (λ_=>⟨sy,bady,by_,hy,hsy,rfl⟩)
 have l2:i<n:=of_decide_eq_true hb2.symm
 obtain ⟨x,hx⟩:∃ x,l[i]? = some x:=⟨_,List.getElem?_eq_getElem (by omega)⟩
 obtain ⟨g,o,rfl,hq⟩:=h5 (by intro e; rw [e] at hx; cases hx)
 obtain ⟨cs,_,c2,c3,c4⟩:=hq i x hx
 obtain ⟨A1,n1,c1,rfl⟩:=h1 c3
 have htk:l.take (i+1)=l.take i++[x]:=by rw [List.take_add_one,hx]; rfl
 have hsi:=hsum (i+1)
 rw [htk] at hsi
 simp only [List.map_append,List.sum_append,List.map_cons,List.map_nil,List.sum_cons,List.sum_nil] at hsi
 refine sT<|Sy.skip<|Sy.then_<|Sy.seq<|Sy.block<|sC ?_
 refine sS (.pointer (some ⟨g,o+i*1,none⟩)) (Quiet.pure (exec_atO 66 _ _ _ (some ⟨g,o,none⟩) g o n cp i 1 .i64 rfl rfl rfl rfl Tryz.underlying66 kF l2))<|sS (.slice A1 n1 c1) (cellC (R:=R) c4.one inCW rfl Tryz.underlying29)<|sp rfl ?_
 refine Sy.nil<|Sy.then_<|Sy.region ?_
 refine sp rfl<|sp rfl<|sp rfl ?_
 refine Sy.callT (λw hw=>el_w_wit (rep:=rep) (ok:=ok) (enc:=enc) (wt:=wt) h1 hm hp w0.inn gc gw g4 g7 bady sy R by_ (ptr gw) _ x h4 h7 c3 rfl hsy (by have hyl:=hy.len; omega) w hw) (λv M hM=>?_)
 obtain ⟨s3,bad3,b3,q1,q2,rfl⟩:=hM
 refine Sy.nil<|Sy.in_<|Sy.then_<|Sy.region ?_
 refine sS (.int .i64 ((i+1:Nat):Int)) (Quiet.pure (exec_int .add _ _ _ .i64 _ _ _ rfl rfl rfl (int_add _ _ _ _ _ ((wrap_i64 (by omega) (by omega)).trans (by omega)))))<|sp rfl ?_
 refine Sy.nil ?_
 have hW:=hy.then_ q1
 have hW':Wrote ((l.take (i+1)).all ok) (varB n++(l.take (i+1)).flatMap enc) (9+((l.take (i+1)).map wt).sum) bad b bad3 b3:=by
  rw [htk]
  simp only [List.all_append,List.flatMap_append,List.map_append,List.sum_append,List.all_cons,List.all_nil,List.flatMap_cons,List.flatMap_nil,List.map_cons,List.map_nil,List.sum_cons,List.sum_nil,Bool.and_true,List.append_nil,Nat.add_zero, ← List.append_assoc, ← Nat.add_assoc]
  simpa only [List.append_assoc,Nat.add_assoc] using hW
 exact Sy.againT (s3,bad3,b3) l2 ⟨hW',q2⟩ (all_cons kR (all_cons kR (all_cons kR (all_cons kR (all_cons kR all_nil))))) (λw h=>h)
theorem list_w_wit (h1:∀ {C cs x},rep C cs x→∃ A n cp,cs=[Value.slice A n cp]) (hm:Mono rep) (hp:PutC 119 1 rep ok enc wt) (w0:Base) (gc gw gx f most:Nat) (hmo:most<1000000) (bad:Bool) (s:Slc) (R:Blocks) (b:Byt) (v:Value) (l:List α) (hv:LstR (rdC w0 R) 1 rep v l) (hc:rdC w0 R gx f v) (hb:BS s b) (hlen:b.length+(9+(l.map wt).sum)≤70368744170000) (w:World) (hw:St w0 w (CWS gc gw bad s R)) :
  Calls Tryz.prog 118 #[ptr gc,.pointer (some ⟨gx,f,none⟩),.int .i64 (most:Int),.func (.func 119) #[] #[]] w (Turns w0 (WrC gc gw R (decide (l.length≤most) && l.all ok) (varB l.length++l.flatMap enc) (9+(l.map wt).sum) bad b)):=by
 have hv0:=hv
 obtain ⟨A,n,cp,rfl,h2,h3,h4',h5⟩:=hv
 refine Sy.enterT (args:=[ptr gc,.pointer (some ⟨gx,f,none⟩),.int .i64 (most:Int),.func (.func 119) #[] #[]]) hw Tryz.func118 rfl kL ?_
 refine sC ?_
 refine sM 94 #[ptr gc] (λg4=>?_)
 refine Sy.permS (List.Perm.of_eq eqCW) ?_
 refine sM 217 #[.func (.func 119) #[] #[]] (λg7=>?_)
 refine Sy.permS (List.Perm.of_eq eqCW) ?_
 obtain ⟨R1,hR1⟩:∃ R1,R1=R++[(g4,94,#[ptr gc])]++[(g7,217,#[.func (.func 119) #[] #[]])]:=⟨_,rfl⟩
 rw [← hR1]
 have m4:(g4,94,#[ptr gc])∈R1:=by rw [hR1]; exact inA lastR
 have m7:(g7,217,#[.func (.func 119) #[] #[]])∈R1:=by rw [hR1]; exact lastR
 have mR:∀ x∈R,x∈R1:=λx hx=>by rw [hR1]; exact inA (inA hx)
 have hv1:LstR (rdC w0 R1) 1 rep (.slice A n cp) l:=LstR.le (rep:=rep) hm (rdC_le mR) hv0
 have hc1:rdC w0 R1 gx f (.slice A n cp):=rdC_le mR _ _ _ hc
 have back:∀ {w:World} {bad':Bool} {s':Slc},St w0 w (CWS gc gw bad' s' R1)→St w0 w (CWS gc gw bad' s' R):=λh=>by
  rw [hR1,List.append_assoc] at h
  exact dropR h
 refine sG<|Sy.seq<|sC ?_
 refine sS (ptr gc) (cellC (R:=R1) (mem1 m4) inCW rfl Tryz.underlying94)<|sS (.bool false) (qg (λw hw=>reads_w w0.inn gc _ _ (List.mem_cons_self ..) w hw)) ?_
 refine sG<|sU<|Sy.skip ?_
 obtain ⟨b1,hb1⟩:∃ z:Bool,z=decide (n≤most):=⟨_,rfl⟩
 refine sR (λj=>j == 7) ?_
 refine sD 0 rfl (ptr gc) (cellC (R:=R1) (mem1 m4) inCW rfl Tryz.underlying94)<|sa 1 rfl rfl<|sa 2 rfl rfl<|se 3 [4,6,7] rfl (.slice A n cp) (cellC (R:=R1) hc1 inCW rfl Tryz.underlying66)<|sb 4 rfl (.int .i64 (n:Int))<|sa 5 rfl rfl ?_
 refine sv 6 rfl (.bool b1) (exec_int .leq _ _ _ .i64 _ _ _ rfl rfl rfl (int_leq _ _ _ _ _ (by rw [hb1]; exact decide_eq_decide.2 (by omega)))) ?_
 refine Sy.soleD 7 rfl (λQ2 hq2=>?_)
 refine Sy.callT (λw hw=>must_w w0.inn gc gw bad b1 s R1 w hw) (λu M hM=>?_)
 subst hM
 refine hq2 _ _ ?_
 refine sE ?_
 obtain ⟨bad1,hbad1⟩:∃ x,x=(bad || !b1):=⟨_,rfl⟩
 rw [← hbad1]
 refine sB ?_
 refine sS (ptr gc) (cellC (R:=R1) (mem1 m4) inCW rfl Tryz.underlying94)<|sp rfl<|sP (.pointer (some ⟨gc,2,none⟩))<|sS (.bool bad1) (qc 0 2 rfl rfl Tryz.underlying4)<|sP (.bool (!bad1)) ?_
 refine sG ?_
 cases bad1
 ·have hb1t:bad=false∧b1=true:=by cases bad <;> cases b1 <;> first | exact ⟨rfl,rfl⟩ | cases hbad1
  obtain ⟨rfl,rfl⟩:=hb1t
  have e1:decide (l.length≤most)=true:=by rw [h2, ← hb1]
  rw [e1,Bool.true_and]
  refine sT ?_
  refine Sy.regionD (λj=>j == 8) kR ?_
  refine se 0 [1,2,3,8] rfl (ptr gc) (cellC (R:=R1) (mem1 m4) inCW rfl Tryz.underlying94)<|sa 1 rfl rfl<|sb 2 rfl (.pointer (some ⟨gc,0,none⟩))<|sD 3 rfl (ptr gw) (qc 0 0 rfl rfl Tryz.underlying122)<|sa 4 rfl rfl<|sa 5 rfl rfl<|sD 6 rfl (.slice A n cp) (cellC (R:=R1) hc1 inCW rfl Tryz.underlying66)<|sb 7 rfl (.func (.func 184) #[] #[ptr g7,ptr g4]) ?_
  refine Sy.soleD 8 rfl (λQ2 hq2=>?_)
  refine Sy.callT (λw hw=>put_w_wit (rep:=rep) h1 hm hp w0.inn gc gw g4 g7 false s R1 b (.slice A n cp) l m4 m7 hv1 hb hlen w hw) (λu M hM=>?_)
  obtain ⟨s1,bad2,b2,q1,q2,rfl⟩:=hM
  refine hq2 _ _ ?_
  refine sE ?_
  exact Sy.retT0 rfl (CWS gc gw bad2 s1 R) (λ_ h=>back h) (λ_=>⟨s1,bad2,b2,q1,q2,rfl⟩)
 ·refine sU<|Sy.skip ?_
  have e1:true=(bad || !(decide (l.length≤most) && l.all ok)):=by
   rw [h2, ← hb1]
   cases bad
   ·cases b1
    ·rfl
    ·cases hbad1
   ·rfl
  exact Sy.retT0 rfl (CWS gc gw true s R) (λ_ h=>back h) (λ_=>⟨s,true,b,⟨e1,λh=>(by cases h),by omega⟩,hb,rfl⟩)
end
section
variable {α:Type} {rep:Rdr→List Value→α→Prop} {p:Ps α}
end
end Wr
end
end Go.Proofs.YtgggdbjakcpanaaGreatDoor
