/-
  Texts of ours, put together: WireConfigsL, WirXE.
-/
import Derived.Test.YtnbenphcpenbeaaGreatWC8
set_option linter.unusedVariables false
set_option linter.unusedSimpArgs false
namespace Go.Proofs.YtnbenphcpenbeaaGreat
section
namespace Wr
open Go.RowKit Sy
set_option maxRecDepth 100000
set_option maxHeartbeats 4000000
def szOU (o:MOu):Nat:=o.range.length+o.surject.length+o.note.length+o.script.length
theorem sum_OU:∀ l:List MOu,(l.map wtOU).sum=105*l.length+(l.map szOU).sum
 | []=>rfl
 | o::l=>by
  have h:=sum_OU l
  simp only [List.map_cons,List.sum_cons,List.length_cons,h]
  unfold wtOU szOU
  omega
theorem rep_sum {p:Ps MOu} (hp:∀ l x r,p l=some (x,r)→wtOU x≤20000):∀ {n:Nat} {l r:Byt} {xs:List MOu},repP p n l=some (xs,r)→(xs.map wtOU).sum≤20000*n
 | 0,l,r,xs,h=>by cases h; exact Nat.le_refl 0
 | n+1,l,r,xs,h=>by
  obtain ⟨x,r1,h1,h⟩:=bind_inv (p:=p) h
  obtain ⟨ys,r2,h2,h⟩:=bind_inv (p:=repP p n) h
  cases h
  have a:=hp _ _ _ h1
  have c:=rep_sum hp h2
  simp only [List.map_cons,List.sum_cons]
  omega
theorem rd_ou {raw r:Byt} {t:MOu} (h:rdOU raw=some (t,r)):wtOU t≤20000:=by
 unfold rdOU at h
 obtain ⟨_,_,_,h⟩:=bind_inv h
 obtain ⟨_,_,_,h⟩:=bind_inv h
 obtain ⟨_,_,_,h⟩:=bind_inv h
 obtain ⟨_,_,_,h⟩:=bind_inv h
 obtain ⟨a,_,ha,h⟩:=bind_inv h
 obtain ⟨b,_,hb,h⟩:=bind_inv h
 obtain ⟨c,_,hc,h⟩:=bind_inv h
 obtain ⟨d,_,hd,h⟩:=bind_inv h
 cases h
 have h1:=text_le ha
 have h2:=text_le hb
 have h3:=text_le hc
 have h4:=text_le hd
 unfold wtOU
 dsimp only
 omega
def zCF:MCf:=⟨List.replicate 32 0,0,⟨0,[]⟩,⟨List.replicate 32 0,List.replicate 32 0,0,0⟩,[]⟩
theorem zCF_rep (C:Rdr):repCF C (Z32++([Value.int .u64 0]++(([Value.int .i64 0]++[Value.slice none 0 0])++((Z32++(Z32++([Value.int .u64 0]++[Value.int .u64 0])))++([Value.slice none 0 0]))))) zCF:=⟨_,_,_,rfl,rfl,(show (0:Nat)<18446744073709551616 by decide),zPA_rep C,⟨rfl,rfl,rfl,(show (0:Nat)<18446744073709551616 by decide),(show (0:Nat)<18446744073709551616 by decide)⟩,none,0,0,rfl,rfl,Nat.le_refl _,Nat.zero_le _,λh=>(h rfl).elim⟩
theorem rd_cfg {raw r:Byt} {t:MCf} (h:rdCF raw=some (t,r)):t.fed.keys.length≤16∧t.coins.length≤64∧wtCF t≤70368744160000:=by
 unfold rdCF at h
 obtain ⟨_,_,_,h⟩:=bind_inv h
 obtain ⟨_,_,_,h⟩:=bind_inv h
 obtain ⟨f,_,hf,h⟩:=bind_inv h
 obtain ⟨_,_,_,h⟩:=bind_inv h
 obtain ⟨c,_,hc,h⟩:=bind_inv h
 cases h
 have h1:=rd_keys hf
 have h2:=lst_le hc
 obtain ⟨n,r1,_,h3⟩:=bind_inv hc
 have h4:=rep_sum (λ_ _ _ h=>rd_ou h) h3
 have h5:=rep_le h3
 refine ⟨h1,h2,?_⟩
 unfold wtCF wtPA
 rw [sum_32]
 dsimp only
 omega
theorem rd_cfgZ (raw:Byt):((allP rdCF raw).getD zCF).fed.keys.length≤16∧((allP rdCF raw).getD zCF).coins.length≤64∧wtCF ((allP rdCF raw).getD zCF)≤70368744160000:=by
 cases h:allP rdCF raw with
 | none=>exact ⟨Nat.zero_le _,Nat.zero_le _,(show wtCF zCF≤70368744160000 by decide)⟩
 | some t=>exact rd_cfg (all_some h)
theorem readR_cfg {α:Type} {rep:Rdr→List Value→α→Prop} {p:Ps α} (hp:∀ (w0:Base) (gr:Nat) (sl:Value) (b:Byt) (at_ e:Nat) (R:Blocks),at_≤b.length→e≤200→b.length≤70368744177664→BytR (rdW w0.world) sl b→∀ w,St w0 w (RB gr sl at_ e R)→Calls Tryz.prog 48 #[ptr gr] w (Turns w0 (Rfd p (rowV 102 rep) gr sl b R at_ e))) (w:World) (v:Value) (b:Byt) (hv:BytR (rdW w) v b) (hl:b.length≤70368744177664) :
  Calls Tryz.prog 20 #[v] w (GetsN w (RdE 102 (Z32++([Value.int .u64 0]++(([Value.int .i64 0]++[Value.slice none 0 0])++((Z32++(Z32++([Value.int .u64 0]++[Value.int .u64 0])))++([Value.slice none 0 0]))))) rep (allP p b))):=by
 refine Sy.enter (args:=[v]) Tryz.func20 rfl kL ?_
 refine sC ?_
 refine sM 54 (Z32++([Value.int .u64 0]++(([Value.int .i64 0]++[Value.slice none 0 0])++((Z32++(Z32++([Value.int .u64 0]++[Value.int .u64 0])))++([Value.slice none 0 0]))))).toArray (λg2=>?_)
 refine sP (.int .i64 0) ?_
 refine sA ?_
 refine sp rfl ?_
 refine Sy.callN kR 34 #[v] kF _ (λw' hw=>beginR_any w' v b (hv.at hw)) (λu M hM=>?_)
 obtain ⟨gr,rfl,rfl⟩:=hM
 refine sp rfl ?_
 refine sA ?_
 refine Sy.permS (M:=RB gr v 0 0 [(g2,54,(Z32++([Value.int .u64 0]++(([Value.int .i64 0]++[Value.slice none 0 0])++((Z32++(Z32++([Value.int .u64 0]++[Value.int .u64 0])))++([Value.slice none 0 0]))))).toArray)]) (Sy.perm_at [1,0] (by kernel_rfl) (by rfl)) ?_
 refine sp rfl ?_
 refine Sy.callT (λw' hw=>hp (Base.of w) gr v b 0 0 [(g2,54,(Z32++([Value.int .u64 0]++(([Value.int .i64 0]++[Value.slice none 0 0])++((Z32++(Z32++([Value.int .u64 0]++[Value.int .u64 0])))++([Value.slice none 0 0]))))).toArray)] (Nat.zero_le _) (Nat.zero_le _) hl hv w' hw) (λu M hM=>?_)
 obtain ⟨x,a2,e2,N,q1,⟨cs,rfl,q2,q3,q4⟩,q5,q6,rfl⟩:=hM
 obtain ⟨o1,o2⟩:=all_of q1
 refine sM 54 (Z32++([Value.int .u64 0]++(([Value.int .i64 0]++[Value.slice none 0 0])++((Z32++(Z32++([Value.int .u64 0]++[Value.int .u64 0])))++([Value.slice none 0 0]))))).toArray (λg5=>?_)
 refine Sy.movT (pre:=[(gr,168,rrC v a2 e2),(g2,54,(Z32++([Value.int .u64 0]++(([Value.int .i64 0]++[Value.slice none 0 0])++((Z32++(Z32++([Value.int .u64 0]++[Value.int .u64 0])))++([Value.slice none 0 0]))))).toArray)]) (T:=N) ?_
 refine sw 2 rfl cs.toArray (Writes.row 54 cs 102 _ _ rfl kR kR kR q2 (by kernel_rfl) q3) ?_
 refine sG<|Sy.seq<|sC ?_
 refine sp rfl ?_
 refine Sy.callT (λw' hw=>endedR_any (Base.of w) gr v b a2 e2 ((g2,54,(Z32++([Value.int .u64 0]++(([Value.int .i64 0]++[Value.slice none 0 0])++((Z32++(Z32++([Value.int .u64 0]++[Value.int .u64 0])))++([Value.slice none 0 0]))))).toArray)::(g5,54,cs.toArray)::N) q6 q5 hl hv w' hw) (λu M hM=>?_)
 obtain ⟨rfl,rfl⟩:=hM
 obtain ⟨f,hf⟩:∃ f,f=if endN b a2 e2≠0 then 120 else 0:=⟨_,rfl⟩
 rw [← hf]
 have hfl:f≤200:=by rw [hf]; split <;> omega
 obtain ⟨b1,hb1⟩:∃ z:Bool,z=decide (f≠0):=⟨_,rfl⟩
 refine sS (.bool b1) (Quiet.pure (exec_int .neq _ _ _ .i64 _ _ _ rfl rfl rfl (int_neq _ _ _ _ _ (by rw [hb1]; exact decide_eq_decide.2 (by omega))))) ?_
 refine sG ?_
 cases b1
 ·have l1:f=0:=Decidable.of_not_not (of_decide_eq_false hb1.symm)
  have l2:endN b a2 e2=0:=by
   rw [hf] at l1
   by_cases h:endN b a2 e2=0
   ·exact h
   ·rw [if_pos h] at l1; cases l1
  have l3:e2=0∧b.drop a2=[]:=by
   unfold endN at l2
   by_cases h:e2=0∧a2<b.length
   ·rw [if_pos h] at l2; cases l2
   ·rw [if_neg h] at l2
    exact ⟨l2,List.drop_eq_nil_of_le (by omega)⟩
  refine sU<|Sy.skip<|sB ?_
  refine sS (.agg cs.toArray) (Quiet.mid 2 g5 0 102 54 54 cs cs _ _ rfl kR rfl Tryz.underlying54 rfl kR (by rw [List.drop_zero,List.take_of_length_le (by omega)]) (by omega))<|sw 1 rfl cs.toArray (Writes.row 54 cs 102 _ _ rfl kR kR kR q2 (by kernel_rfl) q3)<|sP (.int .i64 0) ?_
  refine sG<|Sy.ret ?_
  exact Sy.retGM2 N rfl (.inl (Sy.Res.cell (ty':=54) g2 1 cs.toArray _ (by kernel_rfl) rfl Tryz.underlying54 rfl (by rw [List.size_toArray,q2]; kernel_rfl) rfl)) (.inl (show _=_ by kernel_rfl)) (λ_ h=>h.less (((List.sublist_cons_self (g5,54,cs.toArray) N).cons (g2,54,cs.toArray)).cons (gr,168,rrC v a2 e2))) (.inl ⟨x,cs,o1 l3.1 l3.2,rfl,q2,q4⟩)
 ·have l1:f≠0:=of_decide_eq_true hb1.symm
  have l3:e2≠0∨b.drop a2≠[]:=by
   by_cases h:e2=0∧a2<b.length
   ·refine .inr (λe=>?_)
    have:=congrArg List.length e
    rw [List.length_drop] at this
    simp at this; omega
   ·refine .inl (λe=>l1 ?_)
    rw [hf]; unfold endN; rw [if_neg h,e]; rfl
  refine sT<|sC ?_
  refine sP (.agg (Z32++([Value.int .u64 0]++(([Value.int .i64 0]++[Value.slice none 0 0])++((Z32++(Z32++([Value.int .u64 0]++[Value.int .u64 0])))++([Value.slice none 0 0]))))).toArray)<|sw 1 rfl (Z32++([Value.int .u64 0]++(([Value.int .i64 0]++[Value.slice none 0 0])++((Z32++(Z32++([Value.int .u64 0]++[Value.int .u64 0])))++([Value.slice none 0 0]))))).toArray (wA rfl)<|sP (.int .i64 120) ?_
  refine sG<|Sy.ret<|Sy.then_ret ?_
  exact Sy.retGM2 [] rfl (.inl (Sy.Res.cell (ty':=54) g2 1 (Z32++([Value.int .u64 0]++(([Value.int .i64 0]++[Value.slice none 0 0])++((Z32++(Z32++([Value.int .u64 0]++[Value.int .u64 0])))++([Value.slice none 0 0]))))).toArray _ (by kernel_rfl) rfl Tryz.underlying54 rfl (by kernel_rfl) rfl)) (.inl (show _=_ by kernel_rfl)) (λ_ h=>h.none) (.inr ⟨o2 l3,rfl,rfl⟩)
theorem law_wireconfigs (w:World) (cs:List Value) (t:MCf) (hx:repCF (rdW w) cs t) (v:Value) (raw:Byt) (hv:BytR (rdW w) v raw) (hsz:t.fed.keys.length+(t.coins.length+(t.coins.map szOU).sum)≤1048576) (hl:raw.length≤1048576) :
  Calls Tryz.prog 5 #[.agg cs.toArray,v] w (Gets w (.bool true)):=by
 have hx0:=hx
 have lc:=lenCF hx
 have hwt:wtCF t≤70368744160000:=by unfold wtCF wtPA; rw [sum_32,sum_OU]; omega
 obtain ⟨o1,ho1⟩:∃ o1,o1=allP rdCF raw:=⟨_,rfl⟩
 obtain ⟨y,hY⟩:∃ y,y=o1.getD zCF:=⟨_,rfl⟩
 obtain ⟨hyo,hyc,hwy⟩:y.fed.keys.length≤16∧y.coins.length≤64∧wtCF y≤70368744160000:=by rw [hY,ho1]; exact rd_cfgZ raw
 obtain ⟨e1,he1⟩:∃ e,e=erE (okCF t):=⟨_,rfl⟩
 obtain ⟨b1,hb1⟩:∃ b,b=byE (okCF t) (encCF t):=⟨_,rfl⟩
 obtain ⟨e3,he3⟩:∃ e,e=erE o1.isSome:=⟨_,rfl⟩
 obtain ⟨e5,he5⟩:∃ e,e=erE (okCF y):=⟨_,rfl⟩
 obtain ⟨b5,hb5⟩:∃ b,b=byE (okCF y) (encCF y):=⟨_,rfl⟩
 refine Sy.enter (args:=[.agg cs.toArray,v]) Tryz.func5 rfl kL ?_
 refine sC ?_
 refine sM 54 cs.toArray (λg3=>?_) kR (λw=>run_boxR rfl rfl (by kernel_rfl) lc w)
 refine sP (.bool false) ?_
 refine sA ?_
 refine sS (.agg cs.toArray) (Quiet.mid 0 g3 0 102 54 54 cs cs _ _ rfl kR rfl Tryz.underlying54 rfl kR (by rw [List.drop_zero,List.take_of_length_le (by omega)]) (by omega)) ?_
 refine Sy.callN kR 17 #[.agg cs.toArray] kF (BytE (okCF t) (encCF t)) (λw' hw=>ex_cfg (rep:=repCF) (ok:=okCF) (enc:=encCF) (wt:=wtCF) monoCF config_w w' cs t (monoCF (λg o u hu=>rdC_world (w0:=Base.of w) (R:=[]) hw (λ_ h=>by cases h) g o u (.inl hu)) hx0) lc (by omega)) (λu M1 hM=>?_)
 obtain ⟨u1,rfl,k1⟩:=hM.uni
 rw [← he1]
 rw [← hb1] at k1
 refine sp rfl<|sp rfl<|sp rfl<|sp rfl<|sp rfl ?_
 refine sA ?_
 refine sS (.agg cs.toArray) (Quiet.mid 0 g3 0 102 54 54 cs cs _ _ rfl kR rfl Tryz.underlying54 rfl kR (by rw [List.drop_zero,List.take_of_length_le (by omega)]) (by omega)) ?_
 refine Sy.callN kR 18 #[.agg cs.toArray] kF (BytE (okCF t) (encCF t)) (λw' hw=>cfgR_w w' t cs (monoCF (λg o u hu=>rdC_world (w0:=Base.of w) (R:=[]) hw (λ_ h=>by cases h) g o u (.inl hu)) hx0) (by omega) (by omega) (by omega)) (λu M2 hM=>?_)
 obtain ⟨u2,rfl,k2⟩:=hM.uni
 rw [← he1]
 rw [← hb1] at k2
 refine sp rfl<|sp rfl<|sp rfl<|sp rfl<|sp rfl ?_
 refine sA ?_
 refine sp rfl ?_
 refine Sy.callN kR 19 #[v] kF (RdE 102 (Z32++([Value.int .u64 0]++(([Value.int .i64 0]++[Value.slice none 0 0])++((Z32++(Z32++([Value.int .u64 0]++[Value.int .u64 0])))++([Value.slice none 0 0]))))) repCF o1) (λw' hw=>by rw [ho1]; exact rdx_cfg (rep:=repCF) (p:=rdCF) monoCF (@oneCF) config_r w' v raw (hv.le (λg o u hu=>rdC_world (w0:=Base.of w) (R:=[]) hw (λ_ h=>by cases h) g o u (.inl hu))) (by omega)) (λu M3 hM=>?_)
 obtain ⟨cs3,rfl,l3,r3⟩:=hM.uni zCF (zCF_rep _) rfl
 rw [← he3]
 rw [← hY] at r3
 have l3a:cs3.length=102:=l3
 refine sp rfl<|sp rfl<|sp rfl ?_
 refine sM 54 (Z32++([Value.int .u64 0]++(([Value.int .i64 0]++[Value.slice none 0 0])++((Z32++(Z32++([Value.int .u64 0]++[Value.int .u64 0])))++([Value.slice none 0 0]))))).toArray (λg11=>?_)
 refine Sy.permS List.perm_append_comm ?_
 refine sw 0 rfl cs3.toArray (Writes.row 54 cs3 102 _ _ rfl kR kR kR l3 (by kernel_rfl) (oneCF r3))<|sp rfl ?_
 refine sA ?_
 refine sp rfl ?_
 refine Sy.callN kR 20 #[v] kF (RdE 102 (Z32++([Value.int .u64 0]++(([Value.int .i64 0]++[Value.slice none 0 0])++((Z32++(Z32++([Value.int .u64 0]++[Value.int .u64 0])))++([Value.slice none 0 0]))))) repCF o1) (λw' hw=>by rw [ho1]; exact readR_cfg (rep:=repCF) (p:=rdCF) cfgM_any w' v raw (hv.le (λg o u hu=>rdC_world (w0:=Base.of w) (R:=[]) hw (λ_ h=>by cases h) g o u (.inl hu))) (by omega)) (λu M4 hM=>?_)
 obtain ⟨cs4,rfl,l4,r4⟩:=hM.uni zCF (zCF_rep _) rfl
 rw [← he3]
 rw [← hY] at r4
 have l4a:cs4.length=102:=l4
 refine sp rfl<|sp rfl<|sp rfl ?_
 refine sM 54 (Z32++([Value.int .u64 0]++(([Value.int .i64 0]++[Value.slice none 0 0])++((Z32++(Z32++([Value.int .u64 0]++[Value.int .u64 0])))++([Value.slice none 0 0]))))).toArray (λg13=>?_)
 refine Sy.permS List.perm_append_comm ?_
 refine sw 0 rfl cs4.toArray (Writes.row 54 cs4 102 _ _ rfl kR kR kR l4 (by kernel_rfl) (oneCF r4))<|sp rfl ?_
 refine sA ?_
 refine sS (.agg cs3.toArray) (Quiet.mid 1 g11 0 102 54 54 cs3 cs3 _ _ rfl kR rfl Tryz.underlying54 rfl kR (by rw [List.drop_zero,List.take_of_length_le (by omega)]) (by omega)) ?_
 refine Sy.callN kR 18 #[.agg cs3.toArray] kF (BytE (okCF y) (encCF y)) (λw' hw=>cfgR_w w' y cs3 (monoCF (rdB_world hw (λb hb=>by simp [hb])) r3) (by omega) (by omega) (by omega)) (λu M5 hM=>?_)
 obtain ⟨u5,rfl,k5⟩:=hM.uni
 rw [← he5]
 rw [← hb5] at k5
 refine sp rfl<|sp rfl<|sp rfl<|sp rfl<|sp rfl ?_
 refine sA ?_
 refine sS (.agg cs4.toArray) (Quiet.mid 0 g13 0 102 54 54 cs4 cs4 _ _ rfl kR rfl Tryz.underlying54 rfl kR (by rw [List.drop_zero,List.take_of_length_le (by omega)]) (by omega)) ?_
 refine Sy.callN kR 18 #[.agg cs4.toArray] kF (BytE (okCF y) (encCF y)) (λw' hw=>cfgR_w w' y cs4 (monoCF (rdB_world hw (λb hb=>by simp [hb])) r4) (by omega) (by omega) (by omega)) (λu M6 hM=>?_)
 obtain ⟨u6,rfl,k6⟩:=hM.uni
 rw [← he5]
 rw [← hb5] at k6
 refine sp rfl<|sp rfl<|sp rfl<|sp rfl<|sp rfl ?_
 refine sA ?_
 refine sS (.bool true) (qg (λw' hw=>alive12 w'))<|sp rfl<|sp rfl<|sp rfl<|sS (.bool true) (qg (λw' hw=>by have q:=same_any w' u1 u2 b1 b1 (k1.le (rdB_world hw (λb hb=>by simp [hb]))) (k2.le (rdB_world hw (λb hb=>by simp [hb]))); rw [decide_eq_true rfl] at q; exact q))<|sP (.bool true) ?_
 refine sp rfl<|sp rfl<|sp rfl<|sS (.bool true) (Quiet.pure (exec_int .eql _ _ _ .i64 _ _ _ rfl rfl rfl (int_eql _ _ _ _ _ (decide_eq_true rfl))))<|sP (.bool true) ?_
 refine sp rfl<|sp rfl<|sp rfl<|sS (.bool true) (Quiet.pure (exec_int .eql _ _ _ .i64 _ _ _ rfl rfl rfl (int_eql _ _ _ _ _ (decide_eq_true rfl))))<|sP (.bool true) ?_
 refine sp rfl<|sp rfl<|sp rfl<|sS (.bool true) (qg (λw' hw=>by have q:=same_any w' u5 u6 b5 b5 (k5.le (rdB_world hw (λb hb=>by simp [hb]))) (k6.le (rdB_world hw (λb hb=>by simp [hb]))); rw [decide_eq_true rfl] at q; exact q))<|sP (.bool true)<|sp rfl ?_
 refine sG<|Sy.ret ?_
 exact rV (.bool true) rfl
end Wr
end
section
namespace Wr
open Go.RowKit Sy
set_option maxRecDepth 100000
set_option maxHeartbeats 4000000
theorem opn_cfg:Opn 54 102 repCF (λt=>t.fed.keys.length+(t.coins.length+(t.coins.map szOU).sum)):=(opn_s5 Tryz.underlying54 (by kernel_rfl) (by kernel_rfl) (by kernel_rfl) (by kernel_rfl) (by kernel_rfl) (by kernel_rfl) (by kernel_rfl) (by kernel_rfl) (by kernel_rfl) (by kernel_rfl) opn_dg opn_u64 opn_par opn_mhd (opn_l Tryz.underlying24 (by kernel_rfl) (by decide) opn_out)).as λC cs (p,d,f,m,c) ⟨a0,a1,a2,a3,a4,ec,⟨e0,h0⟩,⟨e1,h1⟩,h2,h3,⟨v,e4,h4⟩⟩=>by
 dsimp only at e0 e1 e4 h0 h1 h2 h3 h4
 subst e0 e1 e4 ec
 exact ⟨⟨p,d,f,m,c⟩,⟨_,_,v,rfl,h0,h1,h2,h3,h4⟩,by show f.keys.length+(c.length+(c.map szOU).sum)≤0+0+f.keys.length+0+(c.length+(c.map szOU).sum); omega⟩
end Wr
end
end Go.Proofs.YtnbenphcpenbeaaGreat
