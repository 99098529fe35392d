/-
  Texts of ours, put together: WirDF, WirDG, WirEA, WirEB, CrvY, RefNumber, SymX, CrvE.
-/
import Derived.Test.YtnbenphcpenbeaaGreatWC6
set_option linter.unusedVariables false
set_option linter.unusedSimpArgs false
namespace Go.Proofs.YtnbenphcpenbeaaGreat
section
namespace Wr
open Go.RowKit Sy
set_option maxRecDepth 100000
set_option maxHeartbeats 4000000
theorem After.mustX {α:Type} (f:Unit→Ps α) (y:α) {s s':RS} (h:s'.e≠0):After (bindP (mustP false) f) s y s':=⟨λ_=>h,λz r _ hp=>(by cases hp),λ_ _=>h⟩
theorem After.mustY {α:Type} {f:Unit→Ps α} {b:Bool} {y:α} {s s':RS} (hb:b=true) (h:After (f ()) s y s'):After (bindP (mustP b) f) s y s':=by subst hb; exact h
theorem one_ni:∀ u∈[Value.slice none 0 0],u.oneCell'=true:=λu hu=>by rw [List.mem_singleton.1 hu]; rfl
theorem out_r:GetC 53 58 ([Value.int .i64 0]++(([Value.bool false]++(Z32++lPT ⟨0,0,false⟩))++(([Value.bool false]++([Value.int .u64 0]++lPT ⟨0,0,false⟩))++([Value.slice none 0 0]++([Value.slice none 0 0]++([Value.slice none 0 0]++([Value.slice none 0 0]))))))) repOU rdOU:=λw0 gc gr gx f tx A Z sl s R S hS hA he hl hv w hw=>by
 refine Sy.enterT (args:=[ptr gc,.pointer (some ⟨gx,f,none⟩)]) hw Tryz.func53 rfl kL ?_
 refine sC ?_
 refine sp rfl<|sp rfl<|sp rfl<|sP (.pointer (some ⟨gx,f,none⟩)) ?_
 refine Sy.callT (λw hw=>octet_r w0.inn gc gr gx f tx (A) (([Value.bool false]++(Z32++lPT ⟨0,0,false⟩))++(([Value.bool false]++([Value.int .u64 0]++lPT ⟨0,0,false⟩))++([Value.slice none 0 0]++([Value.slice none 0 0]++([Value.slice none 0 0]++([Value.slice none 0 0]++(Z))))))) sl s (R) S hS hA he (hl) hv w (by simpa only [List.append_assoc] using hw)) (λu M hM=>?_)
 obtain ⟨x1,s1,sl1,cs1,N1,a1,n1,o1,rfl,e1,h1,y1,rfl⟩:=hM
 have g1:s1.rest.length≤s.rest.length:=h1
 have A1:(A++[Value.int .i64 x1]).length=f+1:=by rw [List.length_append,hA,n1]
 refine sA ?_
 refine sp rfl<|sp rfl<|sP (.pointer (some ⟨gx,f,none⟩))<|sS (.int .i64 x1) (Quiet.cell 1 gx f tx 3 (A++([Value.int .i64 x1]++(([Value.bool false]++(Z32++lPT ⟨0,0,false⟩))++(([Value.bool false]++([Value.int .u64 0]++lPT ⟨0,0,false⟩))++([Value.slice none 0 0]++([Value.slice none 0 0]++([Value.slice none 0 0]++([Value.slice none 0 0]++(Z))))))))).toArray _ _ rfl kR rfl Tryz.underlying3 rfl _ (by rw [List.getElem?_toArray,List.getElem?_append_right (by omega),hA,Nat.sub_self]; rfl)) ?_
 refine sG<|Sy.block<|Sy.seq<|Sy.block ?_
 by_cases hk:x1=1∨x1=2∨x1=3∨x1=4
 ·obtain ⟨k1,k2⟩:=okK_yes hk
  refine Sy.seq ?_
  refine cutC [(0,ptr gc),(1,.pointer (some ⟨gx,f,none⟩))] (CRS gc gr gx tx (A++([Value.int .i64 x1]++(([Value.bool false]++(Z32++lPT ⟨0,0,false⟩))++(([Value.bool false]++([Value.int .u64 0]++lPT ⟨0,0,false⟩))++([Value.slice none 0 0]++([Value.slice none 0 0]++([Value.slice none 0 0]++([Value.slice none 0 0]++(Z))))))))) sl1 s1.e (R++N1)) ?_ ?_
  ·clear a1 n1 o1 A1 k1 k2
   rcases hk with rfl | rfl | rfl | rfl
   ·refine Sy.block<|Sy.block<|Sy.block<|Sy.block<|Sy.seq<|Sy.seq<|sC ?_
    refine sP (.bool true)<|sp rfl ?_
    refine sG<|sT<|Sy.exit<|Sy.then_exit<|Sy.then_exit<|Sy.in_exit<|Sy.in_<|Sy.in_<|Sy.in_ ?_
    exact meet (all_cons kR (all_cons kR all_nil)) (λ_ h=>h)
   ·refine Sy.block<|Sy.block<|Sy.block<|Sy.block<|Sy.seq<|Sy.seq<|sC ?_
    refine sP (.bool false)<|sp rfl ?_
    refine sG<|sU<|Sy.skip<|Sy.then_<|Sy.seq<|sC ?_
    refine sP (.bool true)<|sp rfl ?_
    refine sG<|sT<|Sy.exit<|Sy.then_exit<|Sy.then_exit ?_
    refine Sy.in_pass (by decide) ?_
    refine Sy.in_exit<|Sy.in_<|Sy.in_ ?_
    exact meet (all_cons kR (all_cons kR all_nil)) (λ_ h=>h)
   ·refine Sy.block<|Sy.block<|Sy.block<|Sy.block<|Sy.seq<|Sy.seq<|sC ?_
    refine sP (.bool false)<|sp rfl ?_
    refine sG<|sU<|Sy.skip<|Sy.then_<|Sy.seq<|sC ?_
    refine sP (.bool false)<|sp rfl ?_
    refine sG<|sU<|Sy.skip<|Sy.then_<|Sy.seq<|sC ?_
    refine sP (.bool true)<|sp rfl ?_
    refine sG<|sT<|Sy.exit<|Sy.then_exit<|Sy.then_exit ?_
    refine Sy.in_pass (by decide) ?_
    refine Sy.in_pass (by decide) ?_
    refine Sy.in_exit<|Sy.in_ ?_
    exact meet (all_cons kR (all_cons kR all_nil)) (λ_ h=>h)
   ·refine Sy.block<|Sy.block<|Sy.block<|Sy.block<|Sy.seq<|Sy.seq<|sC ?_
    refine sP (.bool false)<|sp rfl ?_
    refine sG<|sU<|Sy.skip<|Sy.then_<|Sy.seq<|sC ?_
    refine sP (.bool false)<|sp rfl ?_
    refine sG<|sU<|Sy.skip<|Sy.then_<|Sy.seq<|sC ?_
    refine sP (.bool false)<|sp rfl ?_
    refine sG<|sU<|Sy.skip<|Sy.then_<|sC ?_
    refine sP (.bool true)<|sp rfl ?_
    refine sG<|sT<|Sy.exit<|Sy.then_exit ?_
    refine Sy.in_pass (by decide) ?_
    refine Sy.in_pass (by decide) ?_
    refine Sy.in_pass (by decide) ?_
    refine Sy.in_exit ?_
    exact meet (all_cons kR (all_cons kR all_nil)) (λ_ h=>h)
  refine Sy.then_<|Sy.seq<|sC ?_
  refine sp rfl<|sp rfl<|sp rfl<|sP (.pointer (some ⟨gx,f+1,none⟩)) ?_
  refine Sy.callT (λw hw=>tag_r w0.inn gc gr gx (f+1) tx (A++[Value.int .i64 x1]) (([Value.bool false]++([Value.int .u64 0]++lPT ⟨0,0,false⟩))++([Value.slice none 0 0]++([Value.slice none 0 0]++([Value.slice none 0 0]++([Value.slice none 0 0]++(Z)))))) sl1 s1 (R++N1) S (λb h=>List.mem_append_left _ (hS b h)) A1 e1 (Nat.le_trans g1 hl) y1 w (by have e:A++[Value.int .i64 x1]++(([Value.bool false]++(Z32++lPT ⟨0,0,false⟩))++(([Value.bool false]++([Value.int .u64 0]++lPT ⟨0,0,false⟩))++([Value.slice none 0 0]++([Value.slice none 0 0]++([Value.slice none 0 0]++([Value.slice none 0 0]++(Z)))))))=A++([Value.int .i64 x1]++(([Value.bool false]++(Z32++lPT ⟨0,0,false⟩))++(([Value.bool false]++([Value.int .u64 0]++lPT ⟨0,0,false⟩))++([Value.slice none 0 0]++([Value.slice none 0 0]++([Value.slice none 0 0]++([Value.slice none 0 0]++(Z)))))))):=List.append_assoc ..; rw [e]; exact hw)) (λu M hM=>?_)
  obtain ⟨x2,s2,sl2,cs2,N2,a2,n2,o2,⟨rfl,r2⟩,e2,h2,y2,rfl⟩:=hM
  have g2:s2.rest.length≤s.rest.length:=Nat.le_trans h2 g1
  have A2:(A++[Value.int .i64 x1]++(cTG x2)).length=f+43:=by rw [List.length_append,A1,n2]
  refine sA ?_
  refine sp rfl<|sp rfl<|sp rfl<|sP (.pointer (some ⟨gx,f+43,none⟩)) ?_
  refine Sy.callT (λw hw=>amount_r w0.inn gc gr gx (f+43) tx (A++[Value.int .i64 x1]++(cTG x2)) ([Value.slice none 0 0]++([Value.slice none 0 0]++([Value.slice none 0 0]++([Value.slice none 0 0]++(Z))))) sl2 s2 (R++N1++N2) S (λb h=>List.mem_append_left _ (List.mem_append_left _ (hS b h))) A2 e2 (Nat.le_trans g2 hl) y2 w (by have e:A++[Value.int .i64 x1]++(cTG x2)++(([Value.bool false]++([Value.int .u64 0]++lPT ⟨0,0,false⟩))++([Value.slice none 0 0]++([Value.slice none 0 0]++([Value.slice none 0 0]++([Value.slice none 0 0]++(Z))))))=A++[Value.int .i64 x1]++(cTG x2++(([Value.bool false]++([Value.int .u64 0]++lPT ⟨0,0,false⟩))++([Value.slice none 0 0]++([Value.slice none 0 0]++([Value.slice none 0 0]++([Value.slice none 0 0]++(Z))))))):=List.append_assoc ..; rw [e]; exact hw)) (λu M hM=>?_)
  obtain ⟨x3,s3,sl3,cs3,N3,a3,n3,o3,⟨rfl,r3⟩,e3,h3,y3,rfl⟩:=hM
  have g3:s3.rest.length≤s.rest.length:=Nat.le_trans h3 g2
  have A3:(A++[Value.int .i64 x1]++(cTG x2)++(cAM x3)).length=f+54:=by rw [List.length_append,A2,n3]
  refine sA ?_
  refine sp rfl<|sp rfl<|sp rfl<|sP (.pointer (some ⟨gx,f+54,none⟩)) ?_
  refine Sy.callT (λw hw=>text_r 6000 (by decide) w0.inn gc gr gx (f+54) tx (A++[Value.int .i64 x1]++(cTG x2)++(cAM x3)) ([Value.slice none 0 0]++([Value.slice none 0 0]++([Value.slice none 0 0]++(Z)))) sl3 s3 (R++N1++N2++N3) S (λb h=>List.mem_append_left _ (List.mem_append_left _ (List.mem_append_left _ (hS b h)))) A3 e3 (Nat.le_trans g3 hl) y3 w (by have e:A++[Value.int .i64 x1]++(cTG x2)++(cAM x3)++([Value.slice none 0 0]++([Value.slice none 0 0]++([Value.slice none 0 0]++([Value.slice none 0 0]++(Z)))))=A++[Value.int .i64 x1]++(cTG x2)++(cAM x3++([Value.slice none 0 0]++([Value.slice none 0 0]++([Value.slice none 0 0]++([Value.slice none 0 0]++(Z)))))):=List.append_assoc ..; rw [e]; exact hw)) (λu M hM=>?_)
  obtain ⟨x4,s4,sl4,cs4,N4,a4,n4,o4,⟨v4,rfl,r4⟩,e4,h4,y4,rfl⟩:=hM
  have g4:s4.rest.length≤s.rest.length:=Nat.le_trans h4 g3
  have A4:(A++[Value.int .i64 x1]++(cTG x2)++(cAM x3)++[v4]).length=f+55:=by rw [List.length_append,A3,n4]
  refine sA ?_
  refine sp rfl<|sp rfl<|sp rfl<|sP (.pointer (some ⟨gx,f+55,none⟩)) ?_
  refine Sy.callT (λw hw=>text_r 6000 (by decide) w0.inn gc gr gx (f+55) tx (A++[Value.int .i64 x1]++(cTG x2)++(cAM x3)++[v4]) ([Value.slice none 0 0]++([Value.slice none 0 0]++(Z))) sl4 s4 (R++N1++N2++N3++N4) S (λb h=>List.mem_append_left _ (List.mem_append_left _ (List.mem_append_left _ (List.mem_append_left _ (hS b h))))) A4 e4 (Nat.le_trans g4 hl) y4 w (by have e:A++[Value.int .i64 x1]++(cTG x2)++(cAM x3)++[v4]++([Value.slice none 0 0]++([Value.slice none 0 0]++([Value.slice none 0 0]++(Z))))=A++[Value.int .i64 x1]++(cTG x2)++(cAM x3)++([v4]++([Value.slice none 0 0]++([Value.slice none 0 0]++([Value.slice none 0 0]++(Z))))):=List.append_assoc ..; rw [e]; exact hw)) (λu M hM=>?_)
  obtain ⟨x5,s5,sl5,cs5,N5,a5,n5,o5,⟨v5,rfl,r5⟩,e5,h5,y5,rfl⟩:=hM
  have g5:s5.rest.length≤s.rest.length:=Nat.le_trans h5 g4
  have A5:(A++[Value.int .i64 x1]++(cTG x2)++(cAM x3)++[v4]++[v5]).length=f+56:=by rw [List.length_append,A4,n5]
  refine sA ?_
  refine sp rfl<|sp rfl<|sp rfl<|sP (.pointer (some ⟨gx,f+56,none⟩)) ?_
  refine Sy.callT (λw hw=>text_r 128 (by decide) w0.inn gc gr gx (f+56) tx (A++[Value.int .i64 x1]++(cTG x2)++(cAM x3)++[v4]++[v5]) ([Value.slice none 0 0]++(Z)) sl5 s5 (R++N1++N2++N3++N4++N5) S (λb h=>List.mem_append_left _ (List.mem_append_left _ (List.mem_append_left _ (List.mem_append_left _ (List.mem_append_left _ (hS b h)))))) A5 e5 (Nat.le_trans g5 hl) y5 w (by have e:A++[Value.int .i64 x1]++(cTG x2)++(cAM x3)++[v4]++[v5]++([Value.slice none 0 0]++([Value.slice none 0 0]++(Z)))=A++[Value.int .i64 x1]++(cTG x2)++(cAM x3)++[v4]++([v5]++([Value.slice none 0 0]++([Value.slice none 0 0]++(Z)))):=List.append_assoc ..; rw [e]; exact hw)) (λu M hM=>?_)
  obtain ⟨x6,s6,sl6,cs6,N6,a6,n6,o6,⟨v6,rfl,r6⟩,e6,h6,y6,rfl⟩:=hM
  have g6:s6.rest.length≤s.rest.length:=Nat.le_trans h6 g5
  have A6:(A++[Value.int .i64 x1]++(cTG x2)++(cAM x3)++[v4]++[v5]++[v6]).length=f+57:=by rw [List.length_append,A5,n6]
  refine Sy.nil<|Sy.then_<|Sy.region ?_
  refine sp rfl<|sp rfl<|sp rfl<|sP (.pointer (some ⟨gx,f+57,none⟩)) ?_
  refine Sy.callT (λw hw=>text_r 256 (by decide) w0.inn gc gr gx (f+57) tx (A++[Value.int .i64 x1]++(cTG x2)++(cAM x3)++[v4]++[v5]++[v6]) (Z) sl6 s6 (R++N1++N2++N3++N4++N5++N6) S (λb h=>List.mem_append_left _ (List.mem_append_left _ (List.mem_append_left _ (List.mem_append_left _ (List.mem_append_left _ (List.mem_append_left _ (hS b h))))))) A6 e6 (Nat.le_trans g6 hl) y6 w (by have e:A++[Value.int .i64 x1]++(cTG x2)++(cAM x3)++[v4]++[v5]++[v6]++([Value.slice none 0 0]++(Z))=A++[Value.int .i64 x1]++(cTG x2)++(cAM x3)++[v4]++[v5]++([v6]++([Value.slice none 0 0]++(Z))):=List.append_assoc ..; rw [e]; exact hw)) (λu M hM=>?_)
  obtain ⟨x7,s7,sl7,cs7,N7,a7,n7,o7,⟨v7,rfl,r7⟩,e7,h7,y7,rfl⟩:=hM
  have g7:s7.rest.length≤s.rest.length:=Nat.le_trans h7 g6
  have A7:(A++[Value.int .i64 x1]++(cTG x2)++(cAM x3)++[v4]++[v5]++[v6]++[v7]).length=f+58:=by rw [List.length_append,A6,n7]
  refine Sy.nil<|Sy.then_<|Sy.exit ?_
  refine Sy.in_pass (by decide) ?_
  refine Sy.then_exit<|Sy.in_exit ?_
  have hAf:After rdOU s ⟨x1,x2,x3,x4,x5,x6,x7⟩ s7:=a1.bind (After.mustY k1 (a2.bind (a3.bind (a4.bind (a5.bind (a6.bind (a7.bind (After.ret _ _))))))))
  have hLn:([Value.int .i64 x1]++(cTG x2++(cAM x3++([v4]++([v5]++([v6]++([v7]))))))).length=58:=by simp only [List.length_append,n2,n3]; rfl
  have hOn:∀ u∈([Value.int .i64 x1]++(cTG x2++(cAM x3++([v4]++([v5]++([v6]++([v7]))))))),u.oneCell'=true:=ones_app o1 (ones_app o2 (ones_app o3 (ones_app o4 (ones_app o5 (ones_app o6 o7)))))
  have hRp:repOU (rdB (N1++(N2++(N3++(N4++(N5++(N6++N7))))))) ([Value.int .i64 x1]++(cTG x2++(cAM x3++([v4]++([v5]++([v6]++([v7]))))))) ⟨x1,x2,x3,x4,x5,x6,x7⟩:=⟨v4,v5,v6,v7,rfl,r2,r3,r4.le (rdB_le λb h=>by simp [h]),r5.le (rdB_le λb h=>by simp [h]),r6.le (rdB_le λb h=>by simp [h]),r7.le (rdB_le λb h=>by simp [h])⟩
  exact Sy.retT0 rfl (CRS gc gr gx tx (A++(([Value.int .i64 x1]++(cTG x2++(cAM x3++([v4]++([v5]++([v6]++([v7])))))))++Z)) sl7 s7.e (R++(N1++(N2++(N3++(N4++(N5++(N6++N7)))))))) (λ_ h=>by simpa only [List.append_assoc,List.cons_append,List.nil_append] using h) (λ_=>⟨_,s7,sl7,_,_,hAf,hLn,hOn,hRp,e7,g7,y7,rfl⟩)
 refine Sy.seq<|Sy.block<|Sy.block<|Sy.block<|Sy.block<|Sy.seq<|Sy.seq<|sC ?_
 refine sS (.bool false) (Quiet.pure (exec_int .eql _ _ _ .i64 _ _ _ rfl rfl rfl (int_eql _ _ _ _ _ (decide_eq_false (λe=>hk (by simp [e]))))))<|sp rfl ?_
 refine sG<|sU<|Sy.skip<|Sy.then_<|Sy.seq<|sC ?_
 refine sS (.bool false) (Quiet.pure (exec_int .eql _ _ _ .i64 _ _ _ rfl rfl rfl (int_eql _ _ _ _ _ (decide_eq_false (λe=>hk (by simp [e]))))))<|sp rfl ?_
 refine sG<|sU<|Sy.skip<|Sy.then_<|Sy.seq<|sC ?_
 refine sS (.bool false) (Quiet.pure (exec_int .eql _ _ _ .i64 _ _ _ rfl rfl rfl (int_eql _ _ _ _ _ (decide_eq_false (λe=>hk (by simp [e]))))))<|sp rfl ?_
 refine sG<|sU<|Sy.skip<|Sy.then_<|sC ?_
 refine sS (.bool false) (Quiet.pure (exec_int .eql _ _ _ .i64 _ _ _ rfl rfl rfl (int_eql _ _ _ _ _ (decide_eq_false (λe=>hk (by simp [e]))))))<|sp rfl ?_
 refine sG<|sU<|Sy.skip<|Sy.then_<|Sy.exit ?_
 refine Sy.in_pass (by decide) ?_
 refine Sy.in_pass (by decide) ?_
 refine Sy.in_pass (by decide) ?_
 refine Sy.in_pass (by decide) ?_
 refine Sy.then_exit<|Sy.in_exit<|sB ?_
 refine sp rfl ?_
 have p5:(CRS gc gr gx tx (A++([Value.int .i64 x1]++(([Value.bool false]++(Z32++lPT ⟨0,0,false⟩))++(([Value.bool false]++([Value.int .u64 0]++lPT ⟨0,0,false⟩))++([Value.slice none 0 0]++([Value.slice none 0 0]++([Value.slice none 0 0]++([Value.slice none 0 0]++(Z))))))))) sl1 s1.e (R++N1)).Perm (CRN gc gr sl1 s1.e ((gx,tx,(A++([Value.int .i64 x1]++(([Value.bool false]++(Z32++lPT ⟨0,0,false⟩))++(([Value.bool false]++([Value.int .u64 0]++lPT ⟨0,0,false⟩))++([Value.slice none 0 0]++([Value.slice none 0 0]++([Value.slice none 0 0]++([Value.slice none 0 0]++(Z))))))))).toArray)::(R++N1))):=swap23
 refine Sy.permS p5 ?_
 refine Sy.callT (λw hw=>must_r w0.inn gc gr sl1 s1.e e1 ((gx,tx,(A++([Value.int .i64 x1]++(([Value.bool false]++(Z32++lPT ⟨0,0,false⟩))++(([Value.bool false]++([Value.int .u64 0]++lPT ⟨0,0,false⟩))++([Value.slice none 0 0]++([Value.slice none 0 0]++([Value.slice none 0 0]++([Value.slice none 0 0]++(Z))))))))).toArray)::(R++N1)) false w hw) (λu M hM=>?_)
 subst hM
 obtain ⟨e2,he2⟩:∃ e2,e2=if false=true then s1.e else if s1.e=0 then 120 else s1.e:=⟨_,rfl⟩
 rw [← he2]
 rw [if_neg (by decide)] at he2
 have he3:e2≠0:=by rw [he2]; split <;> omega
 have he4:e2≤200:=by rw [he2]; split <;> omega
 refine sG<|Sy.exit<|Sy.in_exit ?_
 have p6:(CRN gc gr sl1 e2 ((gx,tx,(A++([Value.int .i64 x1]++(([Value.bool false]++(Z32++lPT ⟨0,0,false⟩))++(([Value.bool false]++([Value.int .u64 0]++lPT ⟨0,0,false⟩))++([Value.slice none 0 0]++([Value.slice none 0 0]++([Value.slice none 0 0]++([Value.slice none 0 0]++(Z))))))))).toArray)::(R++N1))).Perm (CRS gc gr gx tx (A++([Value.int .i64 x1]++(([Value.bool false]++(Z32++lPT ⟨0,0,false⟩))++(([Value.bool false]++([Value.int .u64 0]++lPT ⟨0,0,false⟩))++([Value.slice none 0 0]++([Value.slice none 0 0]++([Value.slice none 0 0]++([Value.slice none 0 0]++(Z))))))))) sl1 e2 (R++N1)):=swap23
 have hno:okK x1=false:=okK_of hk
 have hAf:After rdOU s ⟨x1,⟨false,z32,⟨0,0,false⟩⟩,⟨false,0,⟨0,0,false⟩⟩,[],[],[],[]⟩ ⟨s1.rest,e2⟩:=a1.bind (by rw [hno]; exact After.mustX _ _ he3)
 have hLn:([Value.int .i64 x1]++(([Value.bool false]++(Z32++lPT ⟨0,0,false⟩))++(([Value.bool false]++([Value.int .u64 0]++lPT ⟨0,0,false⟩))++([Value.slice none 0 0]++([Value.slice none 0 0]++([Value.slice none 0 0]++([Value.slice none 0 0]))))))).length=58:=rfl
 have hOn:∀ u∈([Value.int .i64 x1]++(([Value.bool false]++(Z32++lPT ⟨0,0,false⟩))++(([Value.bool false]++([Value.int .u64 0]++lPT ⟨0,0,false⟩))++([Value.slice none 0 0]++([Value.slice none 0 0]++([Value.slice none 0 0]++([Value.slice none 0 0]))))))),u.oneCell'=true:=ones_app o1 (ones_app (ones_app (λu hu=>by rw [List.mem_singleton.1 hu]; rfl) (ones_app (ones_bW z32) (lPT_one _))) (ones_app (ones_app (λu hu=>by rw [List.mem_singleton.1 hu]; rfl) (ones_app (λu hu=>by rw [List.mem_singleton.1 hu]; rfl) (lPT_one _))) (ones_app one_ni (ones_app one_ni (ones_app one_ni one_ni)))))
 have hRp:repOU (rdB N1) ([Value.int .i64 x1]++(([Value.bool false]++(Z32++lPT ⟨0,0,false⟩))++(([Value.bool false]++([Value.int .u64 0]++lPT ⟨0,0,false⟩))++([Value.slice none 0 0]++([Value.slice none 0 0]++([Value.slice none 0 0]++([Value.slice none 0 0]))))))) ⟨x1,⟨false,z32,⟨0,0,false⟩⟩,⟨false,0,⟨0,0,false⟩⟩,[],[],[],[]⟩:=⟨.slice none 0 0,.slice none 0 0,.slice none 0 0,.slice none 0 0,rfl,⟨rfl,(show 0<Cu.K4 by decide),(show 0<Cu.K4 by decide)⟩,⟨(show (0:Nat)<18446744073709551616 by decide),(show 0<Cu.K4 by decide),(show 0<Cu.K4 by decide)⟩,BytR.nil _,BytR.nil _,BytR.nil _,BytR.nil _⟩
 have hcs:A++(([Value.int .i64 x1]++(([Value.bool false]++(Z32++lPT ⟨0,0,false⟩))++(([Value.bool false]++([Value.int .u64 0]++lPT ⟨0,0,false⟩))++([Value.slice none 0 0]++([Value.slice none 0 0]++([Value.slice none 0 0]++([Value.slice none 0 0])))))))++Z)=A++([Value.int .i64 x1]++(([Value.bool false]++(Z32++lPT ⟨0,0,false⟩))++(([Value.bool false]++([Value.int .u64 0]++lPT ⟨0,0,false⟩))++([Value.slice none 0 0]++([Value.slice none 0 0]++([Value.slice none 0 0]++([Value.slice none 0 0]++(Z)))))))):=by simp only [List.append_assoc]
 exact Sy.retT0 rfl (CRS gc gr gx tx (A++(([Value.int .i64 x1]++(([Value.bool false]++(Z32++lPT ⟨0,0,false⟩))++(([Value.bool false]++([Value.int .u64 0]++lPT ⟨0,0,false⟩))++([Value.slice none 0 0]++([Value.slice none 0 0]++([Value.slice none 0 0]++([Value.slice none 0 0])))))))++Z)) sl1 e2 (R++N1)) (λ_ h=>by rw [hcs]; exact h.perm p6) (λ_=>⟨_,⟨s1.rest,e2⟩,sl1,_,N1,hAf,hLn,hOn,hRp,he4,h1,y1,rfl⟩)
theorem oneOU {C:Rdr} {cs:List Value} {t:MOu} (h:repOU C cs t):∀ u∈cs,u.oneCell'=true:=by
 obtain ⟨vr,vs,vn,vc,rfl,_,_,h1,h2,h3,h4⟩:=h
 exact ones_app (λu hu=>by rw [List.mem_singleton.1 hu]; rfl) (ones_app (ones_app (λu hu=>by rw [List.mem_singleton.1 hu]; rfl) (ones_app (ones_bW _) (lPT_one _))) (ones_app (ones_app (λu hu=>by rw [List.mem_singleton.1 hu]; rfl) (ones_app (λu hu=>by rw [List.mem_singleton.1 hu]; rfl) (lPT_one _))) (ones_app (λu hu=>by rw [List.mem_singleton.1 hu]; exact h1.cells.2) (ones_app (λu hu=>by rw [List.mem_singleton.1 hu]; exact h2.cells.2) (ones_app (λu hu=>by rw [List.mem_singleton.1 hu]; exact h3.cells.2) (λu hu=>by rw [List.mem_singleton.1 hu]; exact h4.cells.2))))))
end Wr
end
section
namespace Wr
open Go.RowKit Sy
set_option maxRecDepth 100000
set_option maxHeartbeats 4000000
end Wr
end
section
namespace Wr
open Go.RowKit Sy
set_option maxRecDepth 100000
set_option maxHeartbeats 4000000
section
variable {α:Type} {rep:Rdr→List Value→α→Prop} {ok:α→Bool} {enc:α→Byt} {wt:α→Nat}
theorem el_w_ous (hm:Mono rep) (hp:PutO 53 58 rep ok enc wt) (w0:Base) (gc gw g4 g7:Nat) (bad:Bool) (s:Slc) (R:Blocks) (b:Byt) (u:Value) (cs:List Value) (x:α) (h4:(g4,85,#[ptr gc])∈R) (h7:(g7,121,#[.func (.func 53) #[] #[]])∈R) (hx:rep (rdC w0 R) cs x) (hl:cs.length=58) (hb:BS s b) (hlen:b.length+wt x≤70368744170000) (w:World) (hw:St w0 w (CWS gc gw bad s R)) :
  Calls Tryz.prog 124 #[u,.agg cs.toArray,ptr g7,ptr g4] w (Turns w0 (WrC gc gw R (ok x) (enc x) (wt x) bad b)):=by
 refine Sy.enterT (args:=[u,.agg cs.toArray,ptr g7,ptr g4]) hw Tryz.func124 rfl kL ?_
 refine sC ?_
 refine sM 71 cs.toArray (λg5=>?_) kR (λw=>run_boxR rfl rfl (by kernel_rfl) hl w)
 refine Sy.permS (List.Perm.of_eq eqCW) ?_
 refine Sy.nil<|Sy.then_<|Sy.region ?_
 refine sS (.func (.func 53) #[] #[]) (cellC (R:=R++[(g5,71,cs.toArray)]) (mem1 (inA h7)) inCW rfl Tryz.underlying121)<|sS (ptr gc) (cellC (R:=R++[(g5,71,cs.toArray)]) (mem1 (inA h4)) inCW rfl Tryz.underlying85) ?_
 refine Sy.callT (λw hw=>hp w0.inn gc gw g5 0 bad s (R++[(g5,71,cs.toArray)]) b cs x (hm (rdC_le (λ_ h=>inA h)) hx) hl (ownX lastR) hb hlen w hw) (λv M hM=>?_)
 obtain ⟨s1,bad1,b1,h1,h2,rfl⟩:=hM
 refine Sy.nil ?_
 exact Sy.retT0 rfl (CWS gc gw bad1 s1 R) (λ_ h=>dropR h) (λ_=>⟨s1,bad1,b1,h1,h2,rfl⟩)
end
section
variable {α:Type} {rep:Rdr→List Value→α→Prop} {ok:α→Bool} {enc:α→Byt} {wt:α→Nat}
theorem put_w_ous (hm:Mono rep) (hp:PutO 53 58 rep ok enc wt) (w0:Base) (gc gw g4 g7:Nat) (bad:Bool) (s:Slc) (R:Blocks) (b:Byt) (v:Value) (l:List α) (h4:(g4,85,#[ptr gc])∈R) (h7:(g7,121,#[.func (.func 53) #[] #[]])∈R) (hv:LstR (rdC w0 R) 58 rep v l) (hb:BS s b) (hlen:b.length+(9+(l.map wt).sum)≤70368744170000) (w:World) (hw:St w0 w (CWS gc gw bad s R)) :
  Calls Tryz.prog 123 #[ptr gw,v,.func (.func 124) #[] #[ptr g7,ptr g4]] w (Turns w0 (WrC gc gw R (l.all ok) (varB l.length++l.flatMap enc) (9+(l.map wt).sum) bad b)):=by
 obtain ⟨A,n,cp,rfl,h2,h3,h4',h5⟩:=hv
 have hmx:n<9223372036854775808:=by simp only [maxLen] at h4'; omega
 refine Sy.enterT (args:=[ptr gw,.slice A n cp,.func (.func 124) #[] #[ptr g7,ptr g4]]) hw Tryz.func123 rfl kL ?_
 refine sC ?_
 refine sp rfl<|sp rfl<|sP (.int .i64 (n:Int))<|sS (.int .u64 (n:Int)) (Quiet.pure (λw=>conv_i6 w _ _ _ n (by omega) rfl rfl)) ?_
 refine Sy.callT (λw hw=>var_any w0.inn gw s ((gc,136,#[ptr gw,.pointer none,.bool bad])::R) b n (by omega) hb (by omega) w (hw.perm permCW)) (λu M hM=>?_)
 obtain ⟨s1,hs1,rfl⟩:=hM
 have hn9:=varB_len n
 refine Sy.permS permCW.symm ?_
 refine Sy.nil<|sB ?_
 refine sp rfl<|sP (.int .i64 (n:Int))<|sP (.int .i64 0) ?_
 refine sG<|Sy.block ?_
 have hw0:Wrote true (varB n) 9 bad b bad (b++varB n):=Wrote.raw _ _ _ hn9
 have hsum:∀ i,((l.take i).map wt).sum≤(l.map wt).sum:=λi=>by
  have e:=congrArg (λz=>(z.map wt).sum) (List.take_append_drop i l)
  simp only [List.map_append,List.sum_append] at e
  omega
 refine Sy.loopT (Y:=Slc×Bool×Byt) n (λi y=>[(0,ptr gw),(2,.func (.func 124) #[] #[ptr g7,ptr g4]),(13,.slice A n cp),(14,.int .i64 (n:Int)),(15,.int .i64 (i:Int))]) (λi y=>CWS gc gw y.2.1 y.1 R) (λi y=>Wrote ((l.take i).all ok) (varB n++(l.take i).flatMap enc) (9+((l.take i).map wt).sum) bad b y.2.1 y.2.2∧BS y.1 y.2.2) (s1,bad,b++varB n) ⟨by
  have e:Wrote ((l.take 0).all ok) (varB n++(l.take 0).flatMap enc) (9+((l.take 0).map wt).sum) bad b bad (b++varB n):=by
   rw [List.take_zero]
   simpa using hw0
  exact e,hs1⟩ (all_cons kR (all_cons kR (all_cons kR (all_cons kR (all_cons kR all_nil))))) (λ_ h=>h) (λi y hi hy=>?_)
 obtain ⟨sy,bady,by_⟩:=y
 obtain ⟨hy,hsy⟩:=hy
 dsimp only at hy hsy ⊢
 refine sC ?_
 obtain ⟨b2,hb2⟩:∃ z:Bool,z=decide (i<n):=⟨_,rfl⟩
 refine sS (.bool b2) (Quiet.pure (exec_int .lss _ _ _ .i64 _ _ _ rfl rfl rfl (int_lss _ _ _ _ _ (by rw [hb2]; exact decide_eq_decide.2 (by omega))))) ?_
 refine sG<|Sy.seq ?_
 cases b2
 case' false =>
  have l2:¬ i<n:=of_decide_eq_false hb2.symm
  obtain rfl:i=n:=by omega
  rw [List.take_of_length_le (by omega)] at hy
  refine sU<|Sy.exit<|Sy.then_exit<|Sy.then_exit<|Sy.in_exit ?_
  rw [h2]
  exact Sy.retT0 rfl (CWS gc gw bady sy R) (λ_ h=>h) (λ_=>⟨sy,bady,by_,hy,hsy,rfl⟩)
 have l2:i<n:=of_decide_eq_true hb2.symm
 obtain ⟨x,hx⟩:∃ x,l[i]? = some x:=⟨_,List.getElem?_eq_getElem (by omega)⟩
 obtain ⟨g,o,rfl,hq⟩:=h5 (by intro e; rw [e] at hx; cases hx)
 obtain ⟨cs,c1,c2,c3,c4⟩:=hq i x hx
 have htk:l.take (i+1)=l.take i++[x]:=by rw [List.take_add_one,hx]; rfl
 have hsi:=hsum (i+1)
 rw [htk] at hsi
 simp only [List.map_append,List.sum_append,List.map_cons,List.map_nil,List.sum_cons,List.sum_nil] at hsi
 refine sT<|Sy.skip<|Sy.then_<|Sy.seq<|Sy.block<|sC ?_
 refine sS (.pointer (some ⟨g,o+i*58,none⟩)) (Quiet.pure (exec_atO 24 _ _ _ (some ⟨g,o,none⟩) g o n cp i 58 .i64 rfl rfl rfl rfl Tryz.underlying24 kF l2))<|sS (.agg cs.toArray) (rowC (R:=R) c4 inCW c1 rfl Tryz.underlying71) ?_
 refine sM 71 ([Value.int .i64 0]++(([Value.bool false]++(Z32++lPT ⟨0,0,false⟩))++(([Value.bool false]++([Value.int .u64 0]++lPT ⟨0,0,false⟩))++([Value.slice none 0 0]++([Value.slice none 0 0]++([Value.slice none 0 0]++([Value.slice none 0 0]))))))).toArray (λg9=>?_)
 refine Sy.permS (List.Perm.of_eq eqCW) ?_
 refine Sy.permS (List.perm_append_comm (l₁:=CWS gc gw bady sy R) (l₂:=[(g9,71,([Value.int .i64 0]++(([Value.bool false]++(Z32++lPT ⟨0,0,false⟩))++(([Value.bool false]++([Value.int .u64 0]++lPT ⟨0,0,false⟩))++([Value.slice none 0 0]++([Value.slice none 0 0]++([Value.slice none 0 0]++([Value.slice none 0 0]))))))).toArray)]) |> λh=>(List.Perm.of_eq eqCW.symm).trans h) ?_
 refine sw 0 rfl cs.toArray (Writes.row 71 cs 58 _ _ rfl kR kR kR c1 (by kernel_rfl) c2) ?_
 refine Sy.permS ((List.perm_append_comm (l₁:=[(g9,71,cs.toArray)]) (l₂:=CWS gc gw bady sy R)).trans (List.Perm.of_eq eqCW)) ?_
 refine Sy.nil<|Sy.then_<|Sy.region ?_
 refine sp rfl<|sp rfl<|sS (.agg cs.toArray) (rowC (R:=R++[(g9,71,cs.toArray)]) (memX lastR) inCW c1 rfl Tryz.underlying71) ?_
 refine Sy.callT (λw hw=>el_w_ous (rep:=rep) (ok:=ok) (enc:=enc) (wt:=wt) hm hp w0.inn gc gw g4 g7 bady sy (R++[(g9,71,cs.toArray)]) by_ (ptr gw) cs x (inA h4) (inA h7) (hm (rdC_le (λ_ h=>inA h)) c3) c1 hsy (by have hyl:=hy.len; omega) w hw) (λv M hM=>?_)
 obtain ⟨s3,bad3,b3,q1,q2,rfl⟩:=hM
 refine Sy.nil<|Sy.in_<|Sy.then_<|Sy.region ?_
 refine sS (.int .i64 ((i+1:Nat):Int)) (Quiet.pure (exec_int .add _ _ _ .i64 _ _ _ rfl rfl rfl (int_add _ _ _ _ _ ((wrap_i64 (by omega) (by omega)).trans (by omega)))))<|sp rfl ?_
 refine Sy.nil ?_
 have hW:=hy.then_ q1
 have hW':Wrote ((l.take (i+1)).all ok) (varB n++(l.take (i+1)).flatMap enc) (9+((l.take (i+1)).map wt).sum) bad b bad3 b3:=by
  rw [htk]
  simp only [List.all_append,List.flatMap_append,List.map_append,List.sum_append,List.all_cons,List.all_nil,List.flatMap_cons,List.flatMap_nil,List.map_cons,List.map_nil,List.sum_cons,List.sum_nil,Bool.and_true,List.append_nil,Nat.add_zero, ← List.append_assoc, ← Nat.add_assoc]
  simpa only [List.append_assoc,Nat.add_assoc] using hW
 exact Sy.againT (s3,bad3,b3) l2 ⟨hW',q2⟩ (all_cons kR (all_cons kR (all_cons kR (all_cons kR (all_cons kR all_nil))))) (λw h=>dropR h)
theorem list_w_ous (hm:Mono rep) (hp:PutO 53 58 rep ok enc wt) (w0:Base) (gc gw gx f most:Nat) (hmo:most<1000000) (bad:Bool) (s:Slc) (R:Blocks) (b:Byt) (v:Value) (l:List α) (hv:LstR (rdC w0 R) 58 rep v l) (hc:rdC w0 R gx f v) (hb:BS s b) (hlen:b.length+(9+(l.map wt).sum)≤70368744170000) (w:World) (hw:St w0 w (CWS gc gw bad s R)) :
  Calls Tryz.prog 66 #[ptr gc,.pointer (some ⟨gx,f,none⟩),.int .i64 (most:Int),.func (.func 53) #[] #[]] w (Turns w0 (WrC gc gw R (decide (l.length≤most) && l.all ok) (varB l.length++l.flatMap enc) (9+(l.map wt).sum) bad b)):=by
 have hv0:=hv
 obtain ⟨A,n,cp,rfl,h2,h3,h4',h5⟩:=hv
 refine Sy.enterT (args:=[ptr gc,.pointer (some ⟨gx,f,none⟩),.int .i64 (most:Int),.func (.func 53) #[] #[]]) hw Tryz.func66 rfl kL ?_
 refine sC ?_
 refine sM 85 #[ptr gc] (λg4=>?_)
 refine Sy.permS (List.Perm.of_eq eqCW) ?_
 refine sM 121 #[.func (.func 53) #[] #[]] (λg7=>?_)
 refine Sy.permS (List.Perm.of_eq eqCW) ?_
 obtain ⟨R1,hR1⟩:∃ R1,R1=R++[(g4,85,#[ptr gc])]++[(g7,121,#[.func (.func 53) #[] #[]])]:=⟨_,rfl⟩
 rw [← hR1]
 have m4:(g4,85,#[ptr gc])∈R1:=by rw [hR1]; exact inA lastR
 have m7:(g7,121,#[.func (.func 53) #[] #[]])∈R1:=by rw [hR1]; exact lastR
 have mR:∀ x∈R,x∈R1:=λx hx=>by rw [hR1]; exact inA (inA hx)
 have hv1:LstR (rdC w0 R1) 58 rep (.slice A n cp) l:=LstR.le (rep:=rep) hm (rdC_le mR) hv0
 have hc1:rdC w0 R1 gx f (.slice A n cp):=rdC_le mR _ _ _ hc
 have back:∀ {w:World} {bad':Bool} {s':Slc},St w0 w (CWS gc gw bad' s' R1)→St w0 w (CWS gc gw bad' s' R):=λh=>by
  rw [hR1,List.append_assoc] at h
  exact dropR h
 refine sG<|Sy.seq<|sC ?_
 refine sS (ptr gc) (cellC (R:=R1) (mem1 m4) inCW rfl Tryz.underlying85)<|sS (.bool false) (qg (λw hw=>reads_w w0.inn gc _ _ (List.mem_cons_self ..) w hw)) ?_
 refine sG<|sU<|Sy.skip ?_
 obtain ⟨b1,hb1⟩:∃ z:Bool,z=decide (n≤most):=⟨_,rfl⟩
 refine sR (λj=>j == 7) ?_
 refine sD 0 rfl (ptr gc) (cellC (R:=R1) (mem1 m4) inCW rfl Tryz.underlying85)<|sa 1 rfl rfl<|sa 2 rfl rfl<|se 3 [4,6,7] rfl (.slice A n cp) (cellC (R:=R1) hc1 inCW rfl Tryz.underlying24)<|sb 4 rfl (.int .i64 (n:Int))<|sa 5 rfl rfl ?_
 refine sv 6 rfl (.bool b1) (exec_int .leq _ _ _ .i64 _ _ _ rfl rfl rfl (int_leq _ _ _ _ _ (by rw [hb1]; exact decide_eq_decide.2 (by omega)))) ?_
 refine Sy.soleD 7 rfl (λQ2 hq2=>?_)
 refine Sy.callT (λw hw=>must_w w0.inn gc gw bad b1 s R1 w hw) (λu M hM=>?_)
 subst hM
 refine hq2 _ _ ?_
 refine sE ?_
 obtain ⟨bad1,hbad1⟩:∃ x,x=(bad || !b1):=⟨_,rfl⟩
 rw [← hbad1]
 refine sB ?_
 refine sS (ptr gc) (cellC (R:=R1) (mem1 m4) inCW rfl Tryz.underlying85)<|sp rfl<|sP (.pointer (some ⟨gc,2,none⟩))<|sS (.bool bad1) (qc 0 2 rfl rfl Tryz.underlying4)<|sP (.bool (!bad1)) ?_
 refine sG ?_
 cases bad1
 ·have hb1t:bad=false∧b1=true:=by cases bad <;> cases b1 <;> first | exact ⟨rfl,rfl⟩ | cases hbad1
  obtain ⟨rfl,rfl⟩:=hb1t
  have e1:decide (l.length≤most)=true:=by rw [h2, ← hb1]
  rw [e1,Bool.true_and]
  refine sT ?_
  refine Sy.regionD (λj=>j == 8) kR ?_
  refine se 0 [1,2,3,8] rfl (ptr gc) (cellC (R:=R1) (mem1 m4) inCW rfl Tryz.underlying85)<|sa 1 rfl rfl<|sb 2 rfl (.pointer (some ⟨gc,0,none⟩))<|sD 3 rfl (ptr gw) (qc 0 0 rfl rfl Tryz.underlying132)<|sa 4 rfl rfl<|sa 5 rfl rfl<|sD 6 rfl (.slice A n cp) (cellC (R:=R1) hc1 inCW rfl Tryz.underlying24)<|sb 7 rfl (.func (.func 124) #[] #[ptr g7,ptr g4]) ?_
  refine Sy.soleD 8 rfl (λQ2 hq2=>?_)
  refine Sy.callT (λw hw=>put_w_ous (rep:=rep) hm hp w0.inn gc gw g4 g7 false s R1 b (.slice A n cp) l m4 m7 hv1 hb hlen w hw) (λu M hM=>?_)
  obtain ⟨s1,bad2,b2,q1,q2,rfl⟩:=hM
  refine hq2 _ _ ?_
  refine sE ?_
  exact Sy.retT0 rfl (CWS gc gw bad2 s1 R) (λ_ h=>back h) (λ_=>⟨s1,bad2,b2,q1,q2,rfl⟩)
 ·refine sU<|Sy.skip ?_
  have e1:true=(bad || !(decide (l.length≤most) && l.all ok)):=by
   rw [h2, ← hb1]
   cases bad
   ·cases b1
    ·rfl
    ·cases hbad1
   ·rfl
  exact Sy.retT0 rfl (CWS gc gw true s R) (λ_ h=>back h) (λ_=>⟨s,true,b,⟨e1,λh=>(by cases h),by omega⟩,hb,rfl⟩)
end
section
variable {α:Type} {rep:Rdr→List Value→α→Prop} {p:Ps α}
theorem el_r_ous (hm:Mono rep) (hp:GetC 53 58 (([Value.int .i64 0]++(([Value.bool false]++(Z32++lPT ⟨0,0,false⟩))++(([Value.bool false]++([Value.int .u64 0]++lPT ⟨0,0,false⟩))++([Value.slice none 0 0]++([Value.slice none 0 0]++([Value.slice none 0 0]++([Value.slice none 0 0])))))))) rep p) (w0:Base) (gc gr g4 g7:Nat) (sl:Value) (s:RS) (R S:Blocks) (hS:∀ b∈S,b∈R) (h4:(g4,85,#[ptr gc])∈R) (h7:(g7,121,#[.func (.func 53) #[] #[]])∈R) (he:s.e≤200) (hl:s.rest.length≤70368744177664) (hv:BytR (rdC w0 S) sl s.rest) (u:Value) (w:World) (hw:St w0 w (CRN gc gr sl s.e R)) :
  Calls Tryz.prog 122 #[u,ptr g7,ptr g4] w (Turns w0 (RdV 58 rep p w0 gc gr s R S)):=by
 refine Sy.enterT (args:=[u,ptr g7,ptr g4]) hw Tryz.func122 rfl kL ?_
 refine sC ?_
 refine sM 71 (([Value.int .i64 0]++(([Value.bool false]++(Z32++lPT ⟨0,0,false⟩))++(([Value.bool false]++([Value.int .u64 0]++lPT ⟨0,0,false⟩))++([Value.slice none 0 0]++([Value.slice none 0 0]++([Value.slice none 0 0]++([Value.slice none 0 0])))))))).toArray (λga=>?_)
 refine sA ?_
 refine sM 71 (([Value.int .i64 0]++(([Value.bool false]++(Z32++lPT ⟨0,0,false⟩))++(([Value.bool false]++([Value.int .u64 0]++lPT ⟨0,0,false⟩))++([Value.slice none 0 0]++([Value.slice none 0 0]++([Value.slice none 0 0]++([Value.slice none 0 0])))))))).toArray (λgb=>?_)
 refine Sy.permS (M:=CRS gc gr gb 71 ([]++((([Value.int .i64 0]++(([Value.bool false]++(Z32++lPT ⟨0,0,false⟩))++(([Value.bool false]++([Value.int .u64 0]++lPT ⟨0,0,false⟩))++([Value.slice none 0 0]++([Value.slice none 0 0]++([Value.slice none 0 0]++([Value.slice none 0 0]))))))))++[])) sl s.e ((ga,71,(([Value.int .i64 0]++(([Value.bool false]++(Z32++lPT ⟨0,0,false⟩))++(([Value.bool false]++([Value.int .u64 0]++lPT ⟨0,0,false⟩))++([Value.slice none 0 0]++([Value.slice none 0 0]++([Value.slice none 0 0]++([Value.slice none 0 0])))))))).toArray)::R)) permEl ?_
 refine sA ?_
 refine sS (.func (.func 53) #[] #[]) (cellC (R:=(ga,71,(([Value.int .i64 0]++(([Value.bool false]++(Z32++lPT ⟨0,0,false⟩))++(([Value.bool false]++([Value.int .u64 0]++lPT ⟨0,0,false⟩))++([Value.slice none 0 0]++([Value.slice none 0 0]++([Value.slice none 0 0]++([Value.slice none 0 0])))))))).toArray)::R) (mem1 (List.mem_cons_of_mem _ h7)) inCR rfl Tryz.underlying121)<|sS (ptr gc) (cellC (R:=(ga,71,(([Value.int .i64 0]++(([Value.bool false]++(Z32++lPT ⟨0,0,false⟩))++(([Value.bool false]++([Value.int .u64 0]++lPT ⟨0,0,false⟩))++([Value.slice none 0 0]++([Value.slice none 0 0]++([Value.slice none 0 0]++([Value.slice none 0 0])))))))).toArray)::R) (mem1 (List.mem_cons_of_mem _ h4)) inCR rfl Tryz.underlying85) ?_
 refine Sy.callT (λw hw=>hp w0.inn gc gr gb 0 71 [] [] sl s ((ga,71,(([Value.int .i64 0]++(([Value.bool false]++(Z32++lPT ⟨0,0,false⟩))++(([Value.bool false]++([Value.int .u64 0]++lPT ⟨0,0,false⟩))++([Value.slice none 0 0]++([Value.slice none 0 0]++([Value.slice none 0 0]++([Value.slice none 0 0])))))))).toArray)::R) S (λb h=>List.mem_cons_of_mem _ (hS b h)) rfl he hl hv w hw) (λv M hM=>?_)
 obtain ⟨x,s',sl',cs,N,q1,q2,q3,q4,q5,q6,q7,rfl⟩:=hM
 rw [List.append_nil]
 refine sA ?_
 refine sS (.agg cs.toArray) (Quiet.mid 1 gb 0 58 71 71 cs cs _ _ rfl kR rfl Tryz.underlying71 rfl kR (by rw [List.drop_zero,List.take_of_length_le (by omega)]) (by omega))<|sw 3 rfl cs.toArray (Writes.row 71 cs 58 _ _ rfl kR kR kR q2 (by kernel_rfl) q3) ?_
 refine sG<|Sy.ret ?_
 exact Sy.retT1 (CRN gc gr sl' s'.e (R++N)) rfl (.inl (Sy.Res.cell (ty':=71) ga 3 cs.toArray _ (by kernel_rfl) rfl Tryz.underlying71 rfl (by rw [List.size_toArray,q2]; kernel_rfl) rfl)) (λw h=>h.less (((List.Sublist.refl _).cons _ |>.cons_cons _).cons _ |>.cons_cons _)) ⟨x,s',sl',cs,N,q1,q2,q3,q4,rfl,q5,q6,q7,rfl⟩
theorem items_r_ous (w:World) (gr most g4 g7:Nat):Calls Tryz.prog 181 #[ptr gr,.int .i64 (most:Int),.func (.func 122) #[] #[ptr g7,ptr g4]] w (GetsN w (λv M=>∃ a b c,v=.func (.func 218) #[] #[ptr a,ptr b,ptr c]∧M=[(a,134,#[ptr gr]),(b,3,#[.int .i64 (most:Int)]),(c,249,#[.func (.func 122) #[] #[ptr g7,ptr g4]])])):=by
 refine Sy.enter (args:=[ptr gr,.int .i64 (most:Int),.func (.func 122) #[] #[ptr g7,ptr g4]]) Tryz.func181 rfl kL ?_
 refine sC ?_
 refine sM 134 #[ptr gr] (λa=>?_)
 refine sM 3 #[.int .i64 (most:Int)] (λb=>?_)
 refine sM 249 #[.func (.func 122) #[] #[ptr g7,ptr g4]] (λc=>?_)
 refine sP .nilFunc ?_
 refine sA ?_
 refine sP (.func (.func 218) #[] #[ptr a,ptr b,ptr c])<|sp rfl ?_
 refine sG<|Sy.ret ?_
 exact Sy.retGM _ rfl (.inl (show _=_ by kernel_rfl)) (λ_ h=>h) ⟨a,b,c,rfl,rfl⟩
noncomputable def inf_ous:TypeInfo:=(Tryz.prog.info? 71).getD default
theorem info_ous:Tryz.prog.info? 71=some inf_ous:=by kernel_rfl
def HYL_ous (p:Ps α) (rep:Rdr→List Value→α→Prop) (w0:Base) (S:Blocks) (m:Nat) (s1:RS) (v:Nat×List Value) (y:YL α):Prop:=∃ x,y.x=some x∧y.l.length=v.1∧RowsOk 71 58 rep y.r y.N y.l∧rep (rdB y.N) v.2 x∧v.2.length=58∧(∀ u∈v.2,u.oneCell'=true)∧v.1<1000000
def HRL_ous (rep:Rdr→List Value→α→Prop) (y y':YL α):Prop:=∃ x r',y.x=some x∧RowsOk 71 58 rep r' y.N (y.l++[x])∧y'={ y with l:=y.l++[x],r:=r',x:=none }
theorem iter_r_ous (hm:Mono rep) (hp:GetC 53 58 (([Value.int .i64 0]++(([Value.bool false]++(Z32++lPT ⟨0,0,false⟩))++(([Value.bool false]++([Value.int .u64 0]++lPT ⟨0,0,false⟩))++([Value.slice none 0 0]++([Value.slice none 0 0]++([Value.slice none 0 0]++([Value.slice none 0 0])))))))) rep p) (w0:Base) (fz:World) (gc gr gl g4 g7 a b c most:Nat) (hmost:most<1000000) (R S:Blocks) (s0:RS) (sl0:Value) (hS:∀ x∈S,x∈R) (h4:(g4,85,#[ptr gc])∈R) (h7:(g7,121,#[.func (.func 53) #[] #[]])∈R) (ha:(a,134,#[ptr gr])∈R) (hb:(b,3,#[.int .i64 (most:Int)])∈R) (hc:(c,249,#[.func (.func 122) #[] #[ptr g7,ptr g4]])∈R) (he:s0.e≤200) (hl:s0.rest.length≤70368744177664) (hv:BytR (rdC w0 S) sl0 s0.rest) (lp:Nat) (w:World) (hw:St (ib w0.world fz) w (LBL gc gr gl 24 nilS s0.e sl0 R []))
  (hY:∀ (v:Nat×List Value) (y:YL α) (W:World),(HYL_ous p rep w0 S 0 s0 v y)→St (ib w0.world fz) W (LBL gc gr gl 24 y.r y.s.e y.sl R y.N)→YieldAt Fence.wide 7 Tryz.prog lp #[.int .i64 (v.1:Int),.agg v.2.toArray] W (RoundT w0.world fz (HRL_ous rep y) (λy=>LBL gc gr gl 24 y.r y.s.e y.sl R y.N))) :
  CallsIn Fence.wide 8 Tryz.prog 218 #[.func (.yield lp) #[] #[],ptr a,ptr b,ptr c] w (DoneT w0.world fz (λy:YL α=>∃ m s1,After (varP most) s0 m s1∧s1.rest.length≤s0.rest.length∧y.l.length≤most∧InvL 71 58 rep p w0 S m s1 y.l.length y∧(y.s.e=0→y.l.length=m)) (λy=>LBL gc gr gl 24 y.r y.s.e y.sl R y.N)):=by
 refine Sy.enterI (args:=[.func (.yield lp) #[] #[],ptr a,ptr b,ptr c]) hw Tryz.func218 rfl kL ?_
 refine sC ?_
 refine sS (ptr gr) (cellC (R:=R) (mem1 ha) lbl_in rfl Tryz.underlying134)<|sS (.int .i64 (most:Int)) (cellC (R:=R) (mem1 hb) lbl_in rfl Tryz.underlying3) ?_
 refine Sy.callT (λw hw=>count_any (ib w0.world fz) gr sl0 s0 ((gc,136,#[.pointer none,ptr gr,.bool false])::(gl,24,#[.slice none 0 0])::(R++[])) S (λx h=>List.mem_cons_of_mem _ (List.mem_cons_of_mem _ (List.mem_append_left _ (hS x h)))) most hmost he hv w (hw.perm swap12)) (λu M hM=>?_)
 obtain ⟨m,s1,sl1,hA1,⟨rfl,hm1⟩,hs1e,hs1r,hs1b,rfl⟩:=hM
 refine Sy.permS (M:=LBL gc gr gl 24 nilS s1.e sl1 R []) swap12.symm ?_
 refine sp rfl ?_
 refine sA ?_
 refine sP (.int .i64 0) ?_
 refine sG<|Sy.block ?_
 refine Sy.loopT (Y:=YL α) m (λi y=>[(0,.func (.yield lp) #[] #[]),(1,ptr a),(2,ptr b),(3,ptr c),(5,.int .i64 (m:Int)),(6,.int .i64 (i:Int))]) (λi y=>LBL gc gr gl 24 y.r y.s.e y.sl R y.N) (λi y=>InvL 71 58 rep p w0 S m s1 i y) ⟨[],nilS,s1,sl1,[],none⟩ ⟨rfl,RowsOk.nil,λh=>⟨h,rfl⟩,λh=>.inl h,hs1e,Nat.le_refl _,hs1b⟩ (all_cons kR (all_cons kR (all_cons kR (all_cons kR (all_cons kR (all_cons kR all_nil)))))) (λ_ h=>h) (λi y hi hy=>?_)
 obtain ⟨l,r,s,sl,N,xo⟩:=y
 have hylen:l.length=i:=hy.len
 refine Sy.seq<|sC ?_
 obtain ⟨b1,hb1⟩:∃ z:Bool,z=decide (i<m):=⟨_,rfl⟩
 refine sp rfl<|sp rfl<|sS (.bool b1) (Quiet.pure (exec_int .lss _ _ _ .i64 _ _ _ rfl rfl rfl (int_lss _ _ _ _ _ (by rw [hb1]; exact decide_eq_decide.2 (by omega)))))<|sp rfl ?_
 cases b1
 case' false =>
  have l1:¬ i<m:=of_decide_eq_false hb1.symm
  obtain rfl:i=m:=by omega
  refine sN<|sN<|sN<|sP (.bool false) ?_
  refine sG<|sU<|Sy.exit<|Sy.then_exit<|Sy.then_exit<|Sy.in_exit ?_
  exact Sy.retI rfl (λv w h=>⟨⟨_,rfl⟩,⟨l,r,s,sl,N,xo⟩,⟨i,s1,hA1,hs1r,by show l.length≤most; omega,by rw [show (⟨l,r,s,sl,N,xo⟩:YL α).l.length=i from hylen]; exact hy,λ_=>hylen⟩,h⟩) (.inr rfl)
 have l1:i<m:=of_decide_eq_true hb1.symm
 obtain ⟨b2,hb2⟩:∃ z:Bool,z=decide (s.e=0):=⟨_,rfl⟩
 have hse:s.e≤200:=hy.e
 refine sS (ptr gr) (cellC (R:=R) (mem1 ha) lbl_in rfl Tryz.underlying134)<|sS (.int .i64 (s.e:Int)) (qg (λw hw=>err_any (ib w0.world fz) gr sl s.e [] (List.mem_cons_of_mem _ (List.mem_cons_self ..)) w hw))<|sS (.bool b2) (Quiet.pure (exec_int .eql _ _ _ .i64 _ _ _ rfl rfl rfl (int_eql _ _ _ _ _ (by rw [hb2]; exact decide_eq_decide.2 (by omega)))))<|sP (.bool b2) ?_
 refine sG ?_
 cases b2
 case' false =>
  have l2:s.e≠0:=of_decide_eq_false hb2.symm
  refine sU<|Sy.exit<|Sy.then_exit<|Sy.then_exit<|Sy.in_exit ?_
  exact Sy.retI rfl (λv w h=>⟨⟨_,rfl⟩,⟨l,r,s,sl,N,xo⟩,⟨m,s1,hA1,hs1r,by show l.length≤most; omega,by rw [show (⟨l,r,s,sl,N,xo⟩:YL α).l.length=i from hylen]; exact hy,λh=>(l2 h).elim⟩,h⟩) (.inr rfl)
 have l2:s.e=0:=of_decide_eq_true hb2.symm
 obtain ⟨hs10,hrep⟩:=hy.yes l2
 refine sT<|Sy.skip<|Sy.then_<|Sy.seq<|Sy.block<|sC ?_
 refine sS (.func (.func 122) #[] #[ptr g7,ptr g4]) (cellC (R:=R) (mem1 hc) lbl_in rfl Tryz.underlying249)<|sS (ptr gr) (cellC (R:=R) (mem1 ha) lbl_in rfl Tryz.underlying134) ?_
 refine Sy.callT (λw hw=>el_r_ous (rep:=rep) (p:=p) hm hp (ib w0.world fz) gc gr g4 g7 sl s ((gl,24,#[r.v])::(r.bl++(R++N))) S (λx h=>List.mem_cons_of_mem _ (List.mem_append_right _ (List.mem_append_left _ (hS x h)))) (List.mem_cons_of_mem _ (List.mem_append_right _ (List.mem_append_left _ h4))) (List.mem_cons_of_mem _ (List.mem_append_right _ (List.mem_append_left _ h7))) hse (Nat.le_trans (Nat.le_trans hy.rest hs1r) hl) hy.byt (ptr gr) w hw) (λu M hM=>?_)
 obtain ⟨x,s',sl',cs,N1,q1,q2,q3,q4,rfl,q5,q6,q7,rfl⟩:=hM
 obtain ⟨st1,st2⟩:=rep_step hrep l2 q1
 refine sM 71 (([Value.int .i64 0]++(([Value.bool false]++(Z32++lPT ⟨0,0,false⟩))++(([Value.bool false]++([Value.int .u64 0]++lPT ⟨0,0,false⟩))++([Value.slice none 0 0]++([Value.slice none 0 0]++([Value.slice none 0 0]++([Value.slice none 0 0])))))))).toArray (λgb=>?_)
 refine Sy.permS (M:=(gb,71,(([Value.int .i64 0]++(([Value.bool false]++(Z32++lPT ⟨0,0,false⟩))++(([Value.bool false]++([Value.int .u64 0]++lPT ⟨0,0,false⟩))++([Value.slice none 0 0]++([Value.slice none 0 0]++([Value.slice none 0 0]++([Value.slice none 0 0])))))))).toArray)::LBL gc gr gl 24 r s'.e sl' R (N++N1)) ((List.perm_append_comm (l₂:=[(gb,71,(([Value.int .i64 0]++(([Value.bool false]++(Z32++lPT ⟨0,0,false⟩))++(([Value.bool false]++([Value.int .u64 0]++lPT ⟨0,0,false⟩))++([Value.slice none 0 0]++([Value.slice none 0 0]++([Value.slice none 0 0]++([Value.slice none 0 0])))))))).toArray)])).trans (List.Perm.cons _ (List.Perm.of_eq (by simp only [List.cons_append,List.append_assoc,List.nil_append]; rfl)))) ?_
 refine sw 0 rfl cs.toArray (Writes.row 71 cs 58 _ _ rfl kR kR kR q2 (by kernel_rfl) q3) ?_
 refine Sy.nil<|Sy.then_ ?_
 have hR2:RowsOk 71 58 rep r (N++N1) l:=RowsOk.more (rep:=rep) hm hy.rows (λb h=>List.mem_append_left _ h)
 have hx2:rep (rdB (N++N1)) cs x:=hm (rdB_le λb h=>List.mem_append_right _ h) q4
 have drop1:∀ {w:World},St (ib w0.world fz) w ((gb,71,cs.toArray)::LBL gc gr gl 24 r s'.e sl' R (N++N1))→St (ib w0.world fz) w (LBL gc gr gl 24 r s'.e sl' R (N++N1)):=λh=>h.less (List.sublist_cons_self _ _)
 obtain ⟨b3,hb3⟩:∃ z:Bool,z=decide (s'.e≠0):=⟨_,rfl⟩
 have inl:∀ b∈R,b∈(gb,71,cs.toArray)::LBL gc gr gl 24 r s'.e sl' R (N++N1):=λb h=>List.mem_cons_of_mem _ (lbl_in b h)
 refine Sy.seq ?_
 cases b3
 case' true =>
  have l3:s'.e≠0:=of_decide_eq_true hb3.symm
  refine Sy.region ?_
  refine sS (ptr gr) (cellC (R:=R) (mem1 ha) inl rfl Tryz.underlying134)<|sS (.int .i64 (s'.e:Int)) (qg (λw hw=>err_any (ib w0.world fz) gr sl' s'.e [] (List.mem_cons_of_mem _ (List.mem_cons_of_mem _ (List.mem_cons_self ..))) w hw))<|sS (.bool true) (Quiet.pure (exec_int .neq _ _ _ .i64 _ _ _ rfl rfl rfl (int_neq _ _ _ _ _ (by rw [hb3]; exact decide_eq_decide.2 (by omega)))))<|sp rfl<|sN<|sN<|sN<|sN<|sN<|sP (.bool true) ?_
  refine sG<|sT<|Sy.ret<|Sy.in_ret<|Sy.then_ret<|Sy.then_ret<|Sy.in_ret ?_
  exact Sy.retI rfl (λv w h=>⟨⟨_,rfl⟩,⟨l,r,s',sl',N++N1,none⟩,⟨m,s1,hA1,hs1r,by show l.length≤most; omega,⟨rfl,hR2,λh=>(l3 h).elim,λ_=>.inr (st2 l3 m l1),q5,Nat.le_trans q6 hy.rest,q7⟩,λh=>(l3 h).elim⟩,drop1 h⟩) (.inl rfl)
 have l3:s'.e=0:=Decidable.of_not_not (of_decide_eq_false hb3.symm)
 refine Sy.regionI 7 (by rintro ⟨_,_,⟨_,hv⟩,_⟩; cases hv) kR ?_
 refine sS (ptr gr) (cellC (R:=R) (mem1 ha) inl rfl Tryz.underlying134)<|sS (.int .i64 (s'.e:Int)) (qg (λw hw=>err_any (ib w0.world fz) gr sl' s'.e [] (List.mem_cons_of_mem _ (List.mem_cons_of_mem _ (List.mem_cons_self ..))) w hw))<|sS (.bool false) (Quiet.pure (exec_int .neq _ _ _ .i64 _ _ _ rfl rfl rfl (int_neq _ _ _ _ _ (by rw [hb3]; exact decide_eq_decide.2 (by omega)))))<|sp rfl<|sp rfl<|sp rfl<|sS (.agg cs.toArray) (Quiet.mid 0 gb 0 58 71 71 cs cs _ _ rfl kR rfl Tryz.underlying71 rfl kR (by rw [List.drop_zero,List.take_of_length_le (by omega)]) (by omega)) ?_
 refine Sy.nil ?_
 refine Sy.yieldI (HR:=HRL_ous rep ⟨l,r,s',sl',N++N1,some x⟩) (LR:=λy=>LBL gc gr gl 24 y.r y.s.e y.sl R y.N) rfl (by rintro ⟨_,_,⟨_,hv⟩,_⟩; cases hv) kR kR lp #[.int .i64 (i:Int),.agg cs.toArray] kF (λw hw=>hY (i,cs) ⟨l,r,s',sl',N++N1,some x⟩ w ⟨x,rfl,hylen,hR2,hx2,q2,q3,by show i<1000000; omega⟩ (drop1 hw)) (λy' hy'=>?_)
 obtain ⟨x',r',hx',hr',rfl⟩:=hy'
 obtain rfl:x=x':=by injection hx'
 refine sP (.bool false)<|sP (.bool false) ?_
 refine sG<|sU<|Sy.skip<|Sy.in_<|Sy.then_<|Sy.region ?_
 refine sp rfl<|sS (.int .i64 ((i+1:Nat):Int)) (Quiet.pure (exec_int .add _ _ _ .i64 _ _ _ rfl rfl rfl (int_add _ _ _ _ _ ((wrap_i64 (by omega) (by omega)).trans (by omega)))))<|sp rfl ?_
 refine Sy.nil ?_
 exact Sy.againT ⟨l++[x],r',s',sl',N++N1,none⟩ l1 ⟨by simp [hylen],hr',λ_=>⟨hs10,st1 l3⟩,λh=>(h l3).elim,q5,Nat.le_trans q6 hy.rest,q7⟩ (all_cons kR (all_cons kR (all_cons kR (all_cons kR (all_cons kR (all_cons kR all_nil)))))) (λw h=>h)
theorem list9_r_ous (hm:Mono rep) (hp:GetC 53 58 (([Value.int .i64 0]++(([Value.bool false]++(Z32++lPT ⟨0,0,false⟩))++(([Value.bool false]++([Value.int .u64 0]++lPT ⟨0,0,false⟩))++([Value.slice none 0 0]++([Value.slice none 0 0]++([Value.slice none 0 0]++([Value.slice none 0 0])))))))) rep p) (w0:Base) (gc gr g4 g7 most:Nat) (hmost:most<1000000) (sl0:Value) (s0:RS) (R S:Blocks) (hS:∀ x∈S,x∈R) (h4:(g4,85,#[ptr gc])∈R) (h7:(g7,121,#[.func (.func 53) #[] #[]])∈R) (he:s0.e≤200) (hl:s0.rest.length≤70368744177664) (hv:BytR (rdC w0 S) sl0 s0.rest) (w:World) (hw:St w0 w (CRN gc gr sl0 s0.e R)) :
  Calls Tryz.prog 121 #[ptr gr,.int .i64 (most:Int),.func (.func 122) #[] #[ptr g7,ptr g4]] w (Turns w0 (RdL 58 rep (listP most p) w0 gc gr s0 R S)):=by
 refine Sy.enterTM (args:=[ptr gr,.int .i64 (most:Int),.func (.func 122) #[] #[ptr g7,ptr g4]]) hw Tryz.func121 rfl kL ?_
 refine sC ?_
 refine sP (.slice none 0 0) ?_
 refine sA ?_
 refine sM 24 #[.slice none 0 0] (λgl=>?_)
 refine sG<|Sy.seq<|sC ?_
 refine sp rfl<|sp rfl<|sp rfl ?_
 refine Sy.callN kR 181 #[ptr gr,.int .i64 (most:Int),.func (.func 122) #[] #[ptr g7,ptr g4]] kF _ (λw _=>items_r_ous w gr most g4 g7) (λv M hM=>?_)
 obtain ⟨a,b,c,rfl,rfl⟩:=hM
 refine Sy.nil<|Sy.then_<|Sy.block ?_
 obtain ⟨R1,hR1⟩:∃ R1,R1=R++[(a,134,#[ptr gr]),(b,3,#[.int .i64 (most:Int)]),(c,249,#[.func (.func 122) #[] #[ptr g7,ptr g4]])]:=⟨_,rfl⟩
 refine Sy.permC (M:=LBL gc gr gl 24 nilS s0.e sl0 R1 []) (by rw [hR1]; exact permLB) ?_
 have mR:∀ x∈R,x∈R1:=λx hx=>by rw [hR1]; exact List.mem_append_left _ hx
 have ma:(a,134,#[ptr gr])∈R1:=by rw [hR1]; simp
 have mb:(b,3,#[.int .i64 (most:Int)])∈R1:=by rw [hR1]; simp
 have mc:(c,249,#[.func (.func 122) #[] #[ptr g7,ptr g4]])∈R1:=by rw [hR1]; simp
 refine Sy.rangeT (α:=Nat×List Value) (Y:=YL α) (Z:=Nat) 218 #[ptr a,ptr b,ptr c] kR kR (enters_of Tryz.func218 kR rfl) (λv=>#[.int .i64 (v.1:Int),.agg v.2.toArray]) (λ_=>rfl) (by decide)
  (HYL_ous p rep w0 S 0 s0) (λ_ y=>LBL gc gr gl 24 y.r y.s.e y.sl R1 y.N) (λ_ _ z=>[(7,ptr gl),(9,ptr z)]) (λv y z=>(z,71,v.2.toArray)::LBL gc gr gl 24 y.r y.s.e y.sl R1 y.N) (λ_ y=>HRL_ous rep y) (λy=>LBL gc gr gl 24 y.r y.s.e y.sl R1 y.N)
  (λy:YL α=>∃ m s1,After (varP most) s0 m s1∧s1.rest.length≤s0.rest.length∧y.l.length≤most∧InvL 71 58 rep p w0 S m s1 y.l.length y∧(y.s.e=0→y.l.length=m)) (λy=>LBL gc gr gl 24 y.r y.s.e y.sl R1 y.N) ?_ ?_ ?_ ?_
 ·exact λlp fz w hw hY=>iter_r_ous (rep:=rep) (p:=p) hm hp w0 fz gc gr gl g4 g7 a b c most hmost R1 S s0 sl0 (λx h=>mR x (hS x h)) (mR _ h4) (mR _ h7) ma mb mc he hl hv lp w hw hY
 ·rintro lp fz ⟨i,cs⟩ ⟨l,r,s,sl,N,xo⟩ ⟨x,rfl,_,_,_,c1,c2,_⟩
  dsimp only at c1 c2 ⊢
  refine Sy.regionR (by rintro ⟨_,_,h⟩; exact h) kR ⟨_,rfl⟩ ?_
  refine sM 71 (([Value.int .i64 0]++(([Value.bool false]++(Z32++lPT ⟨0,0,false⟩))++(([Value.bool false]++([Value.int .u64 0]++lPT ⟨0,0,false⟩))++([Value.slice none 0 0]++([Value.slice none 0 0]++([Value.slice none 0 0]++([Value.slice none 0 0])))))))).toArray (λz=>?_)
  refine Sy.permS (M:=(z,71,(([Value.int .i64 0]++(([Value.bool false]++(Z32++lPT ⟨0,0,false⟩))++(([Value.bool false]++([Value.int .u64 0]++lPT ⟨0,0,false⟩))++([Value.slice none 0 0]++([Value.slice none 0 0]++([Value.slice none 0 0]++([Value.slice none 0 0])))))))).toArray)::LBL gc gr gl 24 r s.e sl R1 N) (List.perm_append_comm (l₂:=[(z,71,(([Value.int .i64 0]++(([Value.bool false]++(Z32++lPT ⟨0,0,false⟩))++(([Value.bool false]++([Value.int .u64 0]++lPT ⟨0,0,false⟩))++([Value.slice none 0 0]++([Value.slice none 0 0]++([Value.slice none 0 0]++([Value.slice none 0 0])))))))).toArray)])) ?_
  refine sw 0 rfl cs.toArray (Writes.row 71 cs 58 _ _ rfl kR kR kR c1 (by kernel_rfl) c2) ?_
  refine Sy.nil ?_
  exact apZ z (all_cons kR (all_cons kR all_nil)) (λ_ h=>h)
 ·rintro lp fz ⟨i,cs⟩ ⟨l,r,s,sl,N,xo⟩ z ⟨x,rfl,hli,⟨xs,x1,x2,x3⟩,hx,c1,c2,hi⟩
  dsimp only at c1 c2 hli x1 x2 x3 hx hi ⊢
  refine Sy.block ?_
  refine Sy.regionR (by rintro ⟨_,_,h⟩; exact h) kR ⟨_,rfl⟩ ?_
  refine sS r.v (qc 3 0 rfl rfl Tryz.underlying24)<|sS (.agg cs.toArray) (Quiet.mid 0 z 0 58 71 71 cs cs _ _ rfl kR rfl Tryz.underlying71 rfl kR (by rw [List.drop_zero,List.take_of_length_le (by omega)]) (by omega)) ?_
  refine Sy.make kR 71 cs.toArray (λg=>.slice (some ⟨g,0,none⟩) 1 1) (Makes.one 24 71 _ _ 58 _ cs rfl kR Tryz.underlying24 info_ous rfl rfl c1 (by decide) (by decide)) (λg8=>?_)
  refine Sy.permS (M:=[(z,71,cs.toArray),(gc,136,#[.pointer none,ptr gr,.bool false]),(gr,261,#[sl,.int .i64 (s.e:Int)]),(gl,24,#[r.v]),(g8,71,cs.toArray)]++(r.bl++(R1++N))) (Sy.flat_perm (ls:=[[(z,71,cs.toArray),(gc,136,#[.pointer none,ptr gr,.bool false]),(gr,261,#[sl,.int .i64 (s.e:Int)]),(gl,24,#[r.v])],r.bl++(R1++N),[(g8,71,cs.toArray)]]) (ms:=[[(z,71,cs.toArray),(gc,136,#[.pointer none,ptr gr,.bool false]),(gr,261,#[sl,.int .i64 (s.e:Int)]),(gl,24,#[r.v])],[(g8,71,cs.toArray)],r.bl++(R1++N)]) [0,2,1] (by kernel_rfl) (by rfl) (by simp) (by simp)) ?_
  refine Sy.appendR kR 24 71 _ _ 58 304 Tryz.underlying24 info_ous rfl rfl rfl rfl (by decide) _ _ rfl x1 kR cs c1 c2 4 g8 71 kR kR (by omega) (by simp only [maxLen]; omega) (λr' hr'=>?_)
  refine sw 3 rfl #[r'.v] (Writes.one 0 24 r'.v _ _ rfl kR kR kR hr'.cells.1 hr'.cells.2 Nat.zero_lt_one kR) ?_
  refine Sy.setT ?_
  refine Sy.nil<|Sy.in_ ?_
  exact bpZ ⟨l++[x],r',s,sl,N,none⟩ ⟨x,r',rfl,RowsOk.add (rep:=rep) x2 x3 hr' hx,rfl⟩ (λw h=>Sy.St.parts (ls:=[[(z,71,cs.toArray)],[(gc,136,#[.pointer none,ptr gr,.bool false]),(gr,261,#[sl,.int .i64 (s.e:Int)]),(gl,24,#[r'.v])],[(g8,71,cs.toArray)],r'.bl++(R1++N)]) (ms:=[[(gc,136,#[.pointer none,ptr gr,.bool false]),(gr,261,#[sl,.int .i64 (s.e:Int)]),(gl,24,#[r'.v])],r'.bl++(R1++N)]) [[(z,71,cs.toArray)],[(g8,71,cs.toArray)]] [1,3,0,2] (by kernel_rfl) (by rfl) (by simp) (by simp) h)
 ·rintro D fz ⟨l,r,s,sl,N,xo⟩ ⟨m,s1,hA1,hs1,hlm,hI,hdn⟩ hD hD2 hmk h0
  dsimp only at hI hdn hlm ⊢
  have hse:s.e≤200:=hI.e
  have hrest:s.rest.length≤s0.rest.length:=Nat.le_trans hI.rest hs1
  refine Sy.in_<|Sy.then_<|Sy.seq<|sC ?_
  obtain ⟨b1,hb1⟩:∃ z:Bool,z=decide (s.e≠0):=⟨_,rfl⟩
  refine sp rfl<|sS (.int .i64 (s.e:Int)) (qg (λw hw=>err_any (ab w0.world fz D) gr sl s.e [] (List.mem_cons_of_mem _ (List.mem_cons_self ..)) w hw))<|sS (.bool b1) (Quiet.pure (exec_int .neq _ _ _ .i64 _ _ _ rfl rfl rfl (int_neq _ _ _ _ _ (by rw [hb1]; exact decide_eq_decide.2 (by omega))))) ?_
  refine sG ?_
  cases b1
  ·have l1:s.e=0:=Decidable.of_not_not (of_decide_eq_false hb1.symm)
   obtain ⟨z1,z2⟩:=hI.yes l1
   rw [hdn l1] at z2
   refine sU<|Sy.skip<|sB ?_
   refine sS r.v (qc 2 0 rfl rfl Tryz.underlying24)<|sp rfl ?_
   refine sG<|Sy.ret ?_
   refine Sy.retTM1 (b0:=w0) (M:=CRN gc gr sl s.e (R++(N++r.bl))) rfl (.inl (show _=_ by kernel_rfl)) (λw h=>Sy.St.parts (ls:=[[(gc,136,#[.pointer none,ptr gr,.bool false]),(gr,261,#[sl,.int .i64 (s.e:Int)])],[(gl,24,#[r.v])],r.bl,R,[(a,134,#[ptr gr]),(b,3,#[.int .i64 (most:Int)]),(c,249,#[.func (.func 122) #[] #[ptr g7,ptr g4]])],N]) (ms:=[[(gc,136,#[.pointer none,ptr gr,.bool false]),(gr,261,#[sl,.int .i64 (s.e:Int)])],R,N,r.bl]) [[(gl,24,#[r.v])],[(a,134,#[ptr gr]),(b,3,#[.int .i64 (most:Int)]),(c,249,#[.func (.func 122) #[] #[ptr g7,ptr g4]])]] [0,3,5,2,1,4] (by kernel_rfl) (by rfl) (by rw [hR1]; simp) (by simp) h) ⟨l,s,sl,N++r.bl,hA1.bind ⟨λh=>(h z1).elim,λy q _ hy=>?_,λ_ hy=>?_⟩,RowsOk.lst (rep:=rep) hm hI.rows,hse,hrest,hI.byt,rfl⟩ hD hD2 hmk h0.out
   ·rw [z2] at hy
    cases hy
    exact ⟨rfl,by rw [← l1]⟩
   ·rw [z2] at hy; cases hy
  ·have l1:s.e≠0:=of_decide_eq_true hb1.symm
   refine sT<|sC ?_
   refine sP (.slice none 0 0) ?_
   refine sG<|Sy.ret<|Sy.then_ret ?_
   refine Sy.retTM1 (b0:=w0) (M:=CRN gc gr sl s.e (R++[])) rfl (.inl (show _=_ by kernel_rfl)) (λw h=>Sy.St.parts (ls:=[[(gc,136,#[.pointer none,ptr gr,.bool false]),(gr,261,#[sl,.int .i64 (s.e:Int)])],[(gl,24,#[r.v])],r.bl,R,[(a,134,#[ptr gr]),(b,3,#[.int .i64 (most:Int)]),(c,249,#[.func (.func 122) #[] #[ptr g7,ptr g4]])],N]) (ms:=[[(gc,136,#[.pointer none,ptr gr,.bool false]),(gr,261,#[sl,.int .i64 (s.e:Int)])],R]) [[(gl,24,#[r.v])],r.bl,[(a,134,#[ptr gr]),(b,3,#[.int .i64 (most:Int)]),(c,249,#[.func (.func 122) #[] #[ptr g7,ptr g4]])],N] [0,3,1,2,4,5] (by kernel_rfl) (by rfl) (by rw [hR1]; simp) (by simp) h) ⟨[],s,sl,[],hA1.bind ⟨λ_=>l1,λy q h1 hy=>?_,λ_ _=>l1⟩,⟨none,0,0,rfl,rfl,Nat.le_refl _,Nat.zero_le _,λh=>(h rfl).elim⟩,hse,hrest,hI.byt,rfl⟩ hD hD2 hmk h0.out
   rcases hI.no l1 with h | h
   ·exact (h h1).elim
   ·rw [h] at hy; cases hy
theorem list_r_ous (hm:Mono rep) (hp:GetC 53 58 (([Value.int .i64 0]++(([Value.bool false]++(Z32++lPT ⟨0,0,false⟩))++(([Value.bool false]++([Value.int .u64 0]++lPT ⟨0,0,false⟩))++([Value.slice none 0 0]++([Value.slice none 0 0]++([Value.slice none 0 0]++([Value.slice none 0 0])))))))) rep p) (w0:Base) (gc gr gx f most:Nat) (hmost:most<1000000) (tx:TypeId) (A Z:List Value) (sl:Value) (s:RS) (R S:Blocks) (hS:∀ b∈S,b∈R) (hA:A.length=f) (he:s.e≤200) (hl:s.rest.length≤70368744177664) (hv:BytR (rdC w0 S) sl s.rest) (w:World) (hw:St w0 w (CRS gc gr gx tx (A++([Value.slice none 0 0]++Z)) sl s.e R)) :
  Calls Tryz.prog 66 #[ptr gc,.pointer (some ⟨gx,f,none⟩),.int .i64 (most:Int),.func (.func 53) #[] #[]] w (Turns w0 (RdT 1 (repL 58 rep) (listP most p) w0 gc gr gx tx A Z s R S)):=by
 refine Sy.enterT (args:=[ptr gc,.pointer (some ⟨gx,f,none⟩),.int .i64 (most:Int),.func (.func 53) #[] #[]]) hw Tryz.func66 rfl kL ?_
 refine sC ?_
 refine sM 85 #[ptr gc] (λg4=>?_)
 refine sM 121 #[.func (.func 53) #[] #[]] (λg7=>?_)
 obtain ⟨R1,hR1⟩:∃ R1,R1=R++([(g4,85,#[ptr gc])]++[(g7,121,#[.func (.func 53) #[] #[]])]):=⟨_,rfl⟩
 refine Sy.permS (M:=CRS gc gr gx tx (A++([Value.slice none 0 0]++Z)) sl s.e R1) (List.Perm.of_eq (by rw [hR1]; simp)) ?_
 have mR:∀ x∈R,x∈R1:=λx hx=>by rw [hR1]; exact List.mem_append_left _ hx
 have m4:(g4,85,#[ptr gc])∈R1:=by rw [hR1]; simp
 have m7:(g7,121,#[.func (.func 53) #[] #[]])∈R1:=by rw [hR1]; simp
 refine sG<|Sy.seq<|sC ?_
 refine sS (ptr gc) (cellC (R:=R1) (mem1 m4) inCR rfl Tryz.underlying85)<|sS (.bool true) (qg (λw hw=>reads_r w0.inn gc gr _ _ (List.mem_cons_self ..) w hw)) ?_
 refine sG<|sT<|sC ?_
 refine sp rfl<|sS (ptr gc) (cellC (R:=R1) (mem1 m4) inCR rfl Tryz.underlying85)<|sp rfl<|sP (.pointer (some ⟨gc,1,none⟩))<|sS (ptr gr) (qc 0 1 rfl rfl Tryz.underlying134)<|sp rfl<|sP (.func (.func 122) #[] #[ptr g7,ptr g4]) ?_
 refine Sy.callT (λw hw=>list9_r_ous (rep:=rep) (p:=p) hm hp w0.inn gc gr g4 g7 most hmost sl s ((gx,tx,(A++([Value.slice none 0 0]++Z)).toArray)::R1) S (λx h=>List.mem_cons_of_mem _ (mR x (hS x h))) (List.mem_cons_of_mem _ m4) (List.mem_cons_of_mem _ m7) he hl hv w (hw.perm swap23)) (λv M hM=>?_)
 obtain ⟨l,s',sl',N,q1,q2,q3,q4,q5,rfl⟩:=hM
 refine Sy.permS (M:=CRS gc gr gx tx (A++([Value.slice none 0 0]++Z)) sl' s'.e (R1++N)) swap23 ?_
 refine sp rfl<|sw 1 rfl (A++([v]++Z)).toArray (Writes.one f 24 v _ _ rfl kR kR kR q2.cells.1 q2.cells.2 (by rw [List.size_toArray,List.length_append,hA]; exact Nat.lt_add_of_pos_right (Nat.succ_pos _)) (set_mid hA)) ?_
 refine sG<|Sy.ret<|Sy.then_ret ?_
 exact Sy.retT0 rfl (CRS gc gr gx tx (A++([v]++Z)) sl' s'.e (R++N)) (λw h=>Sy.St.parts (ls:=[[(gc,136,#[.pointer none,ptr gr,.bool false]),(gx,tx,(A++([v]++Z)).toArray),(gr,261,#[sl',.int .i64 (s'.e:Int)])],R,[(g4,85,#[ptr gc])]++[(g7,121,#[.func (.func 53) #[] #[]])],N]) (ms:=[[(gc,136,#[.pointer none,ptr gr,.bool false]),(gx,tx,(A++([v]++Z)).toArray),(gr,261,#[sl',.int .i64 (s'.e:Int)])],R,N]) [[(g4,85,#[ptr gc])]++[(g7,121,#[.func (.func 53) #[] #[]])]] [0,1,3,2] (by kernel_rfl) (by rfl) (by rw [hR1]; simp) (by simp) h) (λ_=>⟨l,s',sl',[v],N,q1,rfl,λu hu=>by rw [List.mem_singleton.1 hu]; exact q2.cells.2,⟨v,rfl,q2⟩,q3,q4,q5,rfl⟩)
end
end Wr
end
section
namespace Wr
open Go.RowKit Sy
set_option maxRecDepth 100000
set_option maxHeartbeats 4000000
structure MCf where
 peg:Byt
 depth:Nat
 fed:MPa
 main:MHd
 coins:List MOu
def repCF (C:Rdr) (cs:List Value) (t:MCf):Prop:=∃ cp cm vc,cs=t.peg.map bv++([.int .u64 (t.depth:Int)]++(cp++(cm++[vc])))∧t.peg.length=32∧t.depth<18446744073709551616∧repPA C cp t.fed∧repMH C cm t.main∧LstR C 58 repOU vc t.coins
theorem monoCF:Mono repCF:=λhl ⟨cp,cm,vc,h0,h1,h2,h3,h4,h5⟩=>⟨cp,cm,vc,h0,h1,h2,monoPA hl h3,h4,LstR.le (rep:=repOU) monoOU hl h5⟩
def okCF (t:MCf):Bool:=okPA t.fed && (decide (t.coins.length≤64) && t.coins.all okOU)
def encCF (t:MCf):Byt:=t.peg++(nb 8 t.depth++(encPA t.fed++(encMH t.main++encL encOU t.coins)))
def wtCF (t:MCf):Nat:=32+(8+(wtPA t.fed+(80+(9+(t.coins.map wtOU).sum))))
def rdCF:Ps MCf:=bindP (takeP 32) λp=>bindP (numP 8) λd=>bindP rdPA λf=>bindP rdMH λm=>bindP (listP 64 rdOU) λc=>retP ⟨p,d,f,m,c⟩
theorem lenPA {C:Rdr} {cs:List Value} {t:MPa} (h:repPA C cs t):cs.length=2:=by obtain ⟨v,rfl,_⟩:=h; rfl
theorem lenMH {C:Rdr} {cs:List Value} {t:MHd} (h:repMH C cs t):cs.length=66:=by
 obtain ⟨rfl,h1,h2,_⟩:=h
 simp only [List.length_append,List.length_map,h1,h2]; rfl
theorem config_w:PutC 45 102 repCF okCF encCF wtCF:=λw0 gc gw gx f bad s R b cs x hx _ hc hb hl w hw=>by
 obtain ⟨pg,de,fe,mn,co⟩:=x
 obtain ⟨cp,cm,vc,rfl,h1,h2,h3,h4,h5⟩:=hx
 dsimp only at h1 h2 h3 h4 h5 hc
 unfold wtCF at hl
 dsimp only at hl
 have n1:(pg.map bv).length=32:=by rw [List.length_map,h1]
 have n3:=lenPA h3
 have n4:=lenMH h4
 have X0:XAt (rdC w0 R) gx f (pg.map bv):=hc.left
 have Y1:XAt (rdC w0 R) gx (f+32) ([.int .u64 (de:Int)]++(cp++(cm++[vc]))):=hc.right n1
 have Y2:XAt (rdC w0 R) gx (f+33) (cp++(cm++[vc])):=Y1.right (n:=1) rfl
 have Y3:XAt (rdC w0 R) gx (f+35) (cm++[vc]):=Y2.right n3
 have Y4:XAt (rdC w0 R) gx (f+101) [vc]:=Y3.right n4
 refine Sy.enterT (args:=[ptr gc,.pointer (some ⟨gx,f,none⟩)]) hw Tryz.func45 rfl kL ?_
 refine sC ?_
 refine sp rfl<|sp rfl<|sp rfl<|sP (.pointer (some ⟨gx,f,none⟩)) ?_
 refine Sy.callT (λw hw=>digest_w w0.inn gc gw gx f bad s R b pg h1 X0 hb (by omega) w hw) (λu M hM=>?_)
 obtain ⟨s1,bad1,b1,q1,p1,rfl⟩:=hM
 have l1:b1.length≤b.length+32:=q1.len
 refine sA ?_
 refine sp rfl<|sp rfl<|sp rfl<|sP (.pointer (some ⟨gx,f+32,none⟩)) ?_
 refine Sy.callT (λw hw=>long_w w0.inn gc gw gx (f+32) bad1 s1 R b1 de h2 Y1.one p1 (by omega) w hw) (λu M hM=>?_)
 obtain ⟨s2,bad2,b2,q2,p2,rfl⟩:=hM
 have l2:b2.length≤b1.length+8:=q2.len
 refine sA ?_
 refine sp rfl<|sp rfl<|sp rfl<|sP (.pointer (some ⟨gx,f+33,none⟩)) ?_
 refine Sy.callT (λw hw=>params_w w0.inn gc gw gx (f+33) bad2 s2 R b2 cp fe h3 n3 Y2.left p2 (by omega) w hw) (λu M hM=>?_)
 obtain ⟨s3,bad3,b3,q3,p3,rfl⟩:=hM
 have l3:b3.length≤b2.length+wtPA fe:=q3.len
 refine sA ?_
 refine sp rfl<|sp rfl<|sp rfl<|sP (.pointer (some ⟨gx,f+35,none⟩)) ?_
 refine Sy.callT (λw hw=>mainHeader_w w0.inn gc gw gx (f+35) bad3 s3 R b3 cm mn h4 n4 Y3.left p3 (by show _+80≤_; omega) w hw) (λu M hM=>?_)
 obtain ⟨s4,bad4,b4,q4,p4,rfl⟩:=hM
 have l4:b4.length≤b3.length+80:=q4.len
 refine Sy.nil<|Sy.then_<|Sy.region ?_
 refine sp rfl<|sp rfl<|sp rfl<|sP (.pointer (some ⟨gx,f+101,none⟩)) ?_
 refine Sy.callT (λw hw=>list_w_ous (rep:=repOU) monoOU out_w w0.inn gc gw gx (f+101) 64 (by decide) bad4 s4 R b4 vc co h5 Y4.one p4 (by omega) w hw) (λu M hM=>?_)
 obtain ⟨s5,bad5,b5,q5,p5,rfl⟩:=hM
 refine Sy.nil ?_
 have q:=q1.then_ (q2.then_ (q3.then_ (q4.then_ q5)))
 rw [Bool.true_and,Bool.true_and,Bool.true_and] at q
 exact Sy.retT0 rfl (CWS gc gw bad5 s5 R) (λ_ h=>h) (λ_=>⟨s5,bad5,b5,q,p5,rfl⟩)
theorem config_r:GetC 45 102 (Z32++([Value.int .u64 0]++(([Value.int .i64 0]++[Value.slice none 0 0])++((Z32++(Z32++([Value.int .u64 0]++[Value.int .u64 0])))++([Value.slice none 0 0]))))) repCF rdCF:=λw0 gc gr gx f tx A Z sl s R S hS hA he hl hv w hw=>by
 refine Sy.enterT (args:=[ptr gc,.pointer (some ⟨gx,f,none⟩)]) hw Tryz.func45 rfl kL ?_
 refine sC ?_
 refine sp rfl<|sp rfl<|sp rfl<|sP (.pointer (some ⟨gx,f,none⟩)) ?_
 refine Sy.callT (λw hw=>digest_r w0.inn gc gr gx f tx (A) ([Value.int .u64 0]++(([Value.int .i64 0]++[Value.slice none 0 0])++((Z32++(Z32++([Value.int .u64 0]++[Value.int .u64 0])))++([Value.slice none 0 0]++(Z))))) sl s (R) S hS hA he (hl) hv w (by simpa only [List.append_assoc] using hw)) (λu M hM=>?_)
 obtain ⟨x1,s1,sl1,cs1,N1,a1,n1,o1,⟨rfl,r1⟩,e1,h1,y1,rfl⟩:=hM
 have g1:s1.rest.length≤s.rest.length:=h1
 have A1:(A++(x1.map bv)).length=f+32:=by rw [List.length_append,hA,n1]
 refine sA ?_
 refine sp rfl<|sp rfl<|sp rfl<|sP (.pointer (some ⟨gx,f+32,none⟩)) ?_
 refine Sy.callT (λw hw=>long_r w0.inn gc gr gx (f+32) tx (A++(x1.map bv)) (([Value.int .i64 0]++[Value.slice none 0 0])++((Z32++(Z32++([Value.int .u64 0]++[Value.int .u64 0])))++([Value.slice none 0 0]++(Z)))) sl1 s1 (R++N1) S (λb h=>List.mem_append_left _ (hS b h)) A1 e1 (Nat.le_trans g1 hl) y1 w (by have e:A++(x1.map bv)++([Value.int .u64 0]++(([Value.int .i64 0]++[Value.slice none 0 0])++((Z32++(Z32++([Value.int .u64 0]++[Value.int .u64 0])))++([Value.slice none 0 0]++(Z)))))=A++(x1.map bv++([Value.int .u64 0]++(([Value.int .i64 0]++[Value.slice none 0 0])++((Z32++(Z32++([Value.int .u64 0]++[Value.int .u64 0])))++([Value.slice none 0 0]++(Z)))))):=List.append_assoc ..; rw [e]; exact hw)) (λu M hM=>?_)
 obtain ⟨x2,s2,sl2,cs2,N2,a2,n2,o2,⟨rfl,r2⟩,e2,h2,y2,rfl⟩:=hM
 have g2:s2.rest.length≤s.rest.length:=Nat.le_trans h2 g1
 have A2:(A++(x1.map bv)++[Value.int .u64 (x2:Int)]).length=f+33:=by rw [List.length_append,A1,n2]
 refine sA ?_
 refine sp rfl<|sp rfl<|sp rfl<|sP (.pointer (some ⟨gx,f+33,none⟩)) ?_
 refine Sy.callT (λw hw=>params_r w0.inn gc gr gx (f+33) tx (A++(x1.map bv)++[Value.int .u64 (x2:Int)]) ((Z32++(Z32++([Value.int .u64 0]++[Value.int .u64 0])))++([Value.slice none 0 0]++(Z))) sl2 s2 (R++N1++N2) S (λb h=>List.mem_append_left _ (List.mem_append_left _ (hS b h))) A2 e2 (Nat.le_trans g2 hl) y2 w (by have e:A++(x1.map bv)++[Value.int .u64 (x2:Int)]++(([Value.int .i64 0]++[Value.slice none 0 0])++((Z32++(Z32++([Value.int .u64 0]++[Value.int .u64 0])))++([Value.slice none 0 0]++(Z))))=A++(x1.map bv)++([Value.int .u64 (x2:Int)]++(([Value.int .i64 0]++[Value.slice none 0 0])++((Z32++(Z32++([Value.int .u64 0]++[Value.int .u64 0])))++([Value.slice none 0 0]++(Z))))):=List.append_assoc ..; rw [e]; exact hw)) (λu M hM=>?_)
 obtain ⟨x3,s3,sl3,cs3,N3,a3,n3,o3,r3,e3,h3,y3,rfl⟩:=hM
 have g3:s3.rest.length≤s.rest.length:=Nat.le_trans h3 g2
 have A3:(A++(x1.map bv)++[Value.int .u64 (x2:Int)]++(cs3)).length=f+35:=by rw [List.length_append,A2,n3]
 refine sA ?_
 refine sp rfl<|sp rfl<|sp rfl<|sP (.pointer (some ⟨gx,f+35,none⟩)) ?_
 refine Sy.callT (λw hw=>mainHeader_r w0.inn gc gr gx (f+35) tx (A++(x1.map bv)++[Value.int .u64 (x2:Int)]++(cs3)) ([Value.slice none 0 0]++(Z)) sl3 s3 (R++N1++N2++N3) S (λb h=>List.mem_append_left _ (List.mem_append_left _ (List.mem_append_left _ (hS b h)))) A3 e3 (Nat.le_trans g3 hl) y3 w (by have e:A++(x1.map bv)++[Value.int .u64 (x2:Int)]++(cs3)++((Z32++(Z32++([Value.int .u64 0]++[Value.int .u64 0])))++([Value.slice none 0 0]++(Z)))=A++(x1.map bv)++[Value.int .u64 (x2:Int)]++(cs3++((Z32++(Z32++([Value.int .u64 0]++[Value.int .u64 0])))++([Value.slice none 0 0]++(Z)))):=List.append_assoc ..; rw [e]; exact hw)) (λu M hM=>?_)
 obtain ⟨x4,s4,sl4,cs4,N4,a4,n4,o4,r4,e4,h4,y4,rfl⟩:=hM
 have g4:s4.rest.length≤s.rest.length:=Nat.le_trans h4 g3
 have A4:(A++(x1.map bv)++[Value.int .u64 (x2:Int)]++(cs3)++(cs4)).length=f+101:=by rw [List.length_append,A3,n4]
 refine Sy.nil<|Sy.then_<|Sy.region ?_
 refine sp rfl<|sp rfl<|sp rfl<|sP (.pointer (some ⟨gx,f+101,none⟩)) ?_
 refine Sy.callT (λw hw=>list_r_ous (rep:=repOU) (p:=rdOU) monoOU out_r w0.inn gc gr gx (f+101) 64 (by decide) tx (A++(x1.map bv)++[Value.int .u64 (x2:Int)]++(cs3)++(cs4)) (Z) sl4 s4 (R++N1++N2++N3++N4) S (λb h=>List.mem_append_left _ (List.mem_append_left _ (List.mem_append_left _ (List.mem_append_left _ (hS b h))))) A4 e4 (Nat.le_trans g4 hl) y4 w (by have e:A++(x1.map bv)++[Value.int .u64 (x2:Int)]++(cs3)++(cs4)++([Value.slice none 0 0]++(Z))=A++(x1.map bv)++[Value.int .u64 (x2:Int)]++(cs3)++(cs4++([Value.slice none 0 0]++(Z))):=List.append_assoc ..; rw [e]; exact hw)) (λu M hM=>?_)
 obtain ⟨x5,s5,sl5,cs5,N5,a5,n5,o5,⟨v5,rfl,r5⟩,e5,h5,y5,rfl⟩:=hM
 have g5:s5.rest.length≤s.rest.length:=Nat.le_trans h5 g4
 have A5:(A++(x1.map bv)++[Value.int .u64 (x2:Int)]++(cs3)++(cs4)++[v5]).length=f+102:=by rw [List.length_append,A4,n5]
 refine Sy.nil ?_
 have hAf:After rdCF s ⟨x1,x2,x3,x4,x5⟩ s5:=a1.bind (a2.bind (a3.bind (a4.bind (a5.bind (After.ret _ _)))))
 have hLn:(x1.map bv++([Value.int .u64 (x2:Int)]++(cs3++(cs4++([v5]))))).length=102:=by simp only [List.length_append,n1,n3,n4]; rfl
 have hOn:∀ u∈(x1.map bv++([Value.int .u64 (x2:Int)]++(cs3++(cs4++([v5]))))),u.oneCell'=true:=ones_app o1 (ones_app o2 (ones_app o3 (ones_app o4 o5)))
 have hRp:repCF (rdB (N1++(N2++(N3++(N4++N5))))) (x1.map bv++([Value.int .u64 (x2:Int)]++(cs3++(cs4++([v5]))))) ⟨x1,x2,x3,x4,x5⟩:=⟨cs3,cs4,v5,rfl,r1,r2,monoPA (rdB_le λb h=>by simp [h]) r3,r4,LstR.le (rep:=repOU) monoOU (rdB_le λb h=>by simp [h]) r5⟩
 exact Sy.retT0 rfl (CRS gc gr gx tx (A++((x1.map bv++([Value.int .u64 (x2:Int)]++(cs3++(cs4++([v5])))))++Z)) sl5 s5.e (R++(N1++(N2++(N3++(N4++N5)))))) (λ_ h=>by simpa only [List.append_assoc,List.cons_append,List.nil_append] using h) (λ_=>⟨_,s5,sl5,_,_,hAf,hLn,hOn,hRp,e5,g5,y5,rfl⟩)
theorem oneCF {C:Rdr} {cs:List Value} {t:MCf} (h:repCF C cs t):∀ u∈cs,u.oneCell'=true:=by
 obtain ⟨cp,cm,vc,rfl,_,_,h3,h4,h5⟩:=h
 exact ones_app (ones_bW _) (ones_app (λu hu=>by rw [List.mem_singleton.1 hu]; rfl) (ones_app (onePA h3) (ones_app (oneMH h4) (λu hu=>by rw [List.mem_singleton.1 hu]; exact h5.cells.2))))
theorem write_cfg {α:Type} {rep:Rdr→List Value→α→Prop} {ok:α→Bool} {enc:α→Byt} {wt:α→Nat} (hm:Mono rep) (hp:PutC 45 102 rep ok enc wt) (w:World) (cs:List Value) (x:α) (hx:rep (rdW w) cs x) (hl:cs.length=102) (hwt:wt x≤70368744170000) :
  Calls Tryz.prog 44 #[.agg cs.toArray,.func (.func 45) #[] #[]] w (GetsN w (BytE (ok x) (enc x))):=by
 refine Sy.enter (args:=[.agg cs.toArray,.func (.func 45) #[] #[]]) Tryz.func44 rfl kL ?_
 refine sC ?_
 refine sM 54 cs.toArray (λgx=>?_) kR (λw=>run_boxR rfl rfl (by kernel_rfl) hl w)
 refine sP (.slice none 0 0)<|sP (.int .i64 0) ?_
 refine sA ?_
 refine Sy.callN kR 61 #[] kF _ (λw _=>new_any w) (λv M hM=>?_)
 obtain ⟨gw,rfl,rfl⟩:=hM
 refine sP (.agg #[ptr gw,.pointer none,.bool false])<|sM 136 #[ptr gw,.pointer none,.bool false] (λgc=>?_)
 refine sp rfl ?_
 refine sA ?_
 refine Sy.permS (M:=CWS gc gw false nilS [(gx,54,cs.toArray)]) (Sy.perm_at [2,1,0] (by kernel_rfl) (by rfl)) ?_
 refine sp rfl<|sp rfl ?_
 refine Sy.callT (λw' hw=>hp (Base.of w) gc gw gx 0 false nilS [(gx,54,cs.toArray)] [] cs x (hm rdW_base hx) hl (memX (List.mem_singleton.2 rfl)) BS.nil (by show 0+_≤_; omega) w' hw) (λv M hM=>?_)
 obtain ⟨s,bad,b,q1,q2,rfl⟩:=hM
 have hbl:b.length≤wt x:=by have:=q1.len; simpa using this
 refine sG<|Sy.seq<|sC ?_
 refine sp rfl<|sp rfl<|sP (.pointer (some ⟨gc,2,none⟩))<|sS (.bool bad) (qc 0 2 rfl rfl Tryz.underlying4) ?_
 refine sG ?_
 cases bad
 ·have hok:ok x=true:=by
   have e:=q1.bad
   cases h:ok x with
   | true=>rfl
   | false=>rw [h] at e; cases e
  obtain rfl:b=enc x:=by have:=q1.bytes rfl; simpa using this
  refine sU<|Sy.skip<|sB ?_
  refine sp rfl<|sp rfl<|sP (.pointer (some ⟨gc,0,none⟩))<|sS (ptr gw) (qc 0 0 rfl rfl Tryz.underlying132) ?_
  refine Sy.callT (λw' hw=>bytes_any (Base.of w) gw s ((gc,136,#[ptr gw,.pointer none,.bool false])::[(gx,54,cs.toArray)]) (enc x) q2 (by omega) w' (hw.perm permCW)) (λv M hM=>?_)
  obtain ⟨N,hN,rfl⟩:=hM
  refine sp rfl<|sP (.int .i64 0) ?_
  refine sG<|Sy.ret ?_
  exact Sy.retGM2 N rfl (.inl (show _=_ by kernel_rfl)) (.inl (show _=_ by kernel_rfl)) (λ_ h=>h.less (List.sublist_append_right _ _)) (.inl ⟨hok,v,rfl,hN⟩)
 ·have hok:ok x=false:=by
   have e:=q1.bad
   cases h:ok x with
   | false=>rfl
   | true=>rw [h] at e; cases e
  refine sT<|sC ?_
  refine sP (.slice none 0 0)<|sP (.int .i64 120) ?_
  refine sG<|Sy.ret<|Sy.then_ret ?_
  exact Sy.retGM2 [] rfl (.inl (show _=_ by kernel_rfl)) (.inl (show _=_ by kernel_rfl)) (λ_ h=>h.none) (.inr ⟨hok,rfl,rfl⟩)
theorem ex_cfg {α:Type} {rep:Rdr→List Value→α→Prop} {ok:α→Bool} {enc:α→Byt} {wt:α→Nat} (hm:Mono rep) (hp:PutC 45 102 rep ok enc wt) (w:World) (cs:List Value) (x:α) (hx:rep (rdW w) cs x) (hl:cs.length=102) (hwt:wt x≤70368744170000) :
  Calls Tryz.prog 17 #[.agg cs.toArray] w (GetsN w (BytE (ok x) (enc x))):=by
 refine Sy.enter (args:=[.agg cs.toArray]) Tryz.func17 rfl kL ?_
 refine sC ?_
 refine sM 54 cs.toArray (λgx=>?_) kR (λw=>run_boxR rfl rfl (by kernel_rfl) hl w)
 refine sP (.slice none 0 0)<|sP (.int .i64 0) ?_
 refine sA ?_
 refine sS (.agg cs.toArray) (rowC (R:=[(gx,54,cs.toArray)]) (memX (List.mem_singleton.2 rfl)) (λ_ h=>h) hl rfl Tryz.underlying54) ?_
 refine Sy.callN kR 44 #[.agg cs.toArray,.func (.func 45) #[] #[]] kF (BytE (ok x) (enc x)) (λw' hw=>write_cfg (rep:=rep) hm hp w' cs x (hm (λg o u h=>rdC_world (R:=[]) hw (λ_ h=>by cases h) g o u (.inl h)) hx) hl hwt) (λv M hM=>?_)
 have hv:∃ a e:Value,v=.tuple #[a,e]:=by
  rcases hM with ⟨_,u,rfl,_⟩ | ⟨_,rfl,_⟩ <;> exact ⟨_,_,rfl⟩
 obtain ⟨a,e,rfl⟩:=hv
 refine sp rfl<|sp rfl<|sp rfl<|sp rfl ?_
 refine sG<|Sy.ret ?_
 exact Sy.retGM2 M rfl (.inl (show _=_ by kernel_rfl)) (.inl (show _=_ by kernel_rfl)) (λ_ h=>h.less (List.sublist_append_right _ _)) hM
theorem read_cfg {α:Type} {rep:Rdr→List Value→α→Prop} {p:Ps α} (hm:Mono rep) (hp:GetC 45 102 (Z32++([Value.int .u64 0]++(([Value.int .i64 0]++[Value.slice none 0 0])++((Z32++(Z32++([Value.int .u64 0]++[Value.int .u64 0])))++([Value.slice none 0 0]))))) rep p) (w:World) (v:Value) (b:Byt) (hv:BytR (rdW w) v b) (hl:b.length≤70368744177664) :
  Calls Tryz.prog 47 #[v,.func (.func 45) #[] #[]] w (GetsN w (RdE 102 (Z32++([Value.int .u64 0]++(([Value.int .i64 0]++[Value.slice none 0 0])++((Z32++(Z32++([Value.int .u64 0]++[Value.int .u64 0])))++([Value.slice none 0 0]))))) rep (allP p b))):=by
 refine Sy.enter (args:=[v,.func (.func 45) #[] #[]]) Tryz.func47 rfl kL ?_
 refine sC ?_
 refine sM 54 (Z32++([Value.int .u64 0]++(([Value.int .i64 0]++[Value.slice none 0 0])++((Z32++(Z32++([Value.int .u64 0]++[Value.int .u64 0])))++([Value.slice none 0 0]))))).toArray (λg4=>?_)
 refine sP (.int .i64 0) ?_
 refine sA ?_
 refine sM 54 (Z32++([Value.int .u64 0]++(([Value.int .i64 0]++[Value.slice none 0 0])++((Z32++(Z32++([Value.int .u64 0]++[Value.int .u64 0])))++([Value.slice none 0 0]))))).toArray (λg6=>?_)
 refine sM 54 (Z32++([Value.int .u64 0]++(([Value.int .i64 0]++[Value.slice none 0 0])++((Z32++(Z32++([Value.int .u64 0]++[Value.int .u64 0])))++([Value.slice none 0 0]))))).toArray (λg7=>?_)
 refine sA ?_
 refine sp rfl ?_
 refine Sy.callN kR 71 #[v] kF _ (λw' hw=>read_any w' v b (hv.at hw) hl) (λu M hM=>?_)
 obtain ⟨gr,sl,N0,hN0,rfl,rfl⟩:=hM
 refine sP (.agg #[.pointer none,ptr gr,.bool false])<|sM 136 #[.pointer none,ptr gr,.bool false] (λgc=>?_)
 refine Sy.permS (M:=CRS gc gr g6 54 ([]++((Z32++([Value.int .u64 0]++(([Value.int .i64 0]++[Value.slice none 0 0])++((Z32++(Z32++([Value.int .u64 0]++[Value.int .u64 0])))++([Value.slice none 0 0])))))++[])) sl 0 ((g4,54,(Z32++([Value.int .u64 0]++(([Value.int .i64 0]++[Value.slice none 0 0])++((Z32++(Z32++([Value.int .u64 0]++[Value.int .u64 0])))++([Value.slice none 0 0]))))).toArray)::(g7,54,(Z32++([Value.int .u64 0]++(([Value.int .i64 0]++[Value.slice none 0 0])++((Z32++(Z32++([Value.int .u64 0]++[Value.int .u64 0])))++([Value.slice none 0 0]))))).toArray)::N0)) (Sy.flat_perm (ls:=[[(g4,54,(Z32++([Value.int .u64 0]++(([Value.int .i64 0]++[Value.slice none 0 0])++((Z32++(Z32++([Value.int .u64 0]++[Value.int .u64 0])))++([Value.slice none 0 0]))))).toArray)],[(g6,54,(Z32++([Value.int .u64 0]++(([Value.int .i64 0]++[Value.slice none 0 0])++((Z32++(Z32++([Value.int .u64 0]++[Value.int .u64 0])))++([Value.slice none 0 0]))))).toArray)],[(g7,54,(Z32++([Value.int .u64 0]++(([Value.int .i64 0]++[Value.slice none 0 0])++((Z32++(Z32++([Value.int .u64 0]++[Value.int .u64 0])))++([Value.slice none 0 0]))))).toArray)],[(gr,261,#[sl,.int .i64 0])],N0,[(gc,136,#[.pointer none,ptr gr,.bool false])]]) (ms:=[[(gc,136,#[.pointer none,ptr gr,.bool false])],[(g6,54,(Z32++([Value.int .u64 0]++(([Value.int .i64 0]++[Value.slice none 0 0])++((Z32++(Z32++([Value.int .u64 0]++[Value.int .u64 0])))++([Value.slice none 0 0]))))).toArray)],[(gr,261,#[sl,.int .i64 0])],[(g4,54,(Z32++([Value.int .u64 0]++(([Value.int .i64 0]++[Value.slice none 0 0])++((Z32++(Z32++([Value.int .u64 0]++[Value.int .u64 0])))++([Value.slice none 0 0]))))).toArray)],[(g7,54,(Z32++([Value.int .u64 0]++(([Value.int .i64 0]++[Value.slice none 0 0])++((Z32++(Z32++([Value.int .u64 0]++[Value.int .u64 0])))++([Value.slice none 0 0]))))).toArray)],N0]) [5,1,3,0,2,4] (by kernel_rfl) (by rfl) (by simp) (by simp)) ?_
 refine sp rfl ?_
 refine sA ?_
 refine sp rfl<|sp rfl ?_
 refine Sy.callT (λw' hw=>hp (Base.of w) gc gr g6 0 54 [] [] sl ⟨b,0⟩ ((g4,54,(Z32++([Value.int .u64 0]++(([Value.int .i64 0]++[Value.slice none 0 0])++((Z32++(Z32++([Value.int .u64 0]++[Value.int .u64 0])))++([Value.slice none 0 0]))))).toArray)::(g7,54,(Z32++([Value.int .u64 0]++(([Value.int .i64 0]++[Value.slice none 0 0])++((Z32++(Z32++([Value.int .u64 0]++[Value.int .u64 0])))++([Value.slice none 0 0]))))).toArray)::N0) N0 (λx h=>List.mem_cons_of_mem _ (List.mem_cons_of_mem _ h)) rfl (Nat.zero_le _) hl (hN0.byt.le rdB_base) w' hw) (λu M hM=>?_)
 obtain ⟨x,s',sl',cs,N,q1,q2,q3,q4,q5,q6,q7,rfl⟩:=hM
 rw [List.append_nil]
 obtain ⟨o1,o2⟩:=all_of q1
 obtain ⟨e,hE⟩:∃ e,e=if s'.e=0∧0<s'.rest.length then 113 else s'.e:=⟨_,rfl⟩
 have hEl:e≤200:=by rw [hE]; split <;> omega
 refine sG<|Sy.seq<|sC ?_
 obtain ⟨b1,hb1⟩:∃ z:Bool,z=decide (e≠0):=⟨_,rfl⟩
 refine sp rfl<|sp rfl<|sP (.pointer (some ⟨gc,1,none⟩))<|sS (ptr gr) (qc 0 1 rfl rfl Tryz.underlying134)<|sS (.int .i64 (e:Int)) (qg (λw' hw=>by rw [hE]; exact end_any (Base.of w) gr sl' s' N0 q5 q7 (List.mem_cons_of_mem _ (List.mem_cons_of_mem _ (List.mem_cons_self ..))) w' hw))<|sS (.bool b1) (Quiet.pure (exec_int .neq _ _ _ .i64 _ _ _ rfl rfl rfl (int_neq _ _ _ _ _ (by rw [hb1]; exact decide_eq_decide.2 (by omega))))) ?_
 refine sG ?_
 cases b1
 ·have l1:e=0:=Decidable.of_not_not (of_decide_eq_false hb1.symm)
  have l2:s'.e=0∧s'.rest=[]:=by
   by_cases h:s'.e=0∧0<s'.rest.length
   ·rw [if_pos h] at hE; omega
   ·rw [if_neg h] at hE
    exact ⟨by omega,List.eq_nil_of_length_eq_zero (by omega)⟩
  refine sU<|Sy.skip<|sB ?_
  refine sS (.agg cs.toArray) (Quiet.mid 1 g6 0 102 54 54 cs cs _ _ rfl kR rfl Tryz.underlying54 rfl kR (by rw [List.drop_zero,List.take_of_length_le (by omega)]) (by omega))<|sw 3 rfl cs.toArray (Writes.row 54 cs 102 _ _ rfl kR kR kR q2 (by kernel_rfl) q3)<|sP (.int .i64 0) ?_
  refine sG<|Sy.ret ?_
  exact Sy.retGM2 N rfl (.inl (Sy.Res.cell (ty':=54) g4 3 cs.toArray _ (by kernel_rfl) rfl Tryz.underlying54 rfl (by rw [List.size_toArray,q2]; kernel_rfl) rfl)) (.inl (show _=_ by kernel_rfl)) (λ_ h=>h.less (List.sublist_append_right [(gc,136,#[.pointer none,ptr gr,.bool false]),(g6,54,cs.toArray),(gr,261,#[sl',.int .i64 (s'.e:Int)]),(g4,54,cs.toArray),(g7,54,(Z32++([Value.int .u64 0]++(([Value.int .i64 0]++[Value.slice none 0 0])++((Z32++(Z32++([Value.int .u64 0]++[Value.int .u64 0])))++([Value.slice none 0 0]))))).toArray)] (N0++N) |> λh1=>(List.sublist_append_right N0 N).trans h1)) (.inl ⟨x,cs,o1 l2.1 l2.2,rfl,q2,q4⟩)
 ·have l1:e≠0:=of_decide_eq_true hb1.symm
  have l2:s'.e≠0∨s'.rest≠[]:=by
   by_cases h:s'.e=0∧0<s'.rest.length
   ·exact .inr (λe=>by rw [e] at h; exact absurd h.2 (by decide))
   ·rw [if_neg h] at hE; exact .inl (by omega)
  refine sT<|sC ?_
  refine sS (.agg (Z32++([Value.int .u64 0]++(([Value.int .i64 0]++[Value.slice none 0 0])++((Z32++(Z32++([Value.int .u64 0]++[Value.int .u64 0])))++([Value.slice none 0 0]))))).toArray) (qk 4 0 102 rfl rfl Tryz.underlying54)<|sw 3 rfl (Z32++([Value.int .u64 0]++(([Value.int .i64 0]++[Value.slice none 0 0])++((Z32++(Z32++([Value.int .u64 0]++[Value.int .u64 0])))++([Value.slice none 0 0]))))).toArray (wA rfl)<|sP (.int .i64 120) ?_
  refine sG<|Sy.ret<|Sy.then_ret ?_
  exact Sy.retGM2 [] rfl (.inl (Sy.Res.cell (ty':=54) g4 3 (Z32++([Value.int .u64 0]++(([Value.int .i64 0]++[Value.slice none 0 0])++((Z32++(Z32++([Value.int .u64 0]++[Value.int .u64 0])))++([Value.slice none 0 0]))))).toArray _ (by kernel_rfl) rfl Tryz.underlying54 rfl (by kernel_rfl) rfl)) (.inl (show _=_ by kernel_rfl)) (λ_ h=>h.none) (.inr ⟨o2 l2,rfl,rfl⟩)
theorem rdx_cfg {α:Type} {rep:Rdr→List Value→α→Prop} {p:Ps α} (hm:Mono rep) (hone:∀ {C:Rdr} {cs:List Value} {x:α},rep C cs x→∀ u∈cs,u.oneCell'=true) (hp:GetC 45 102 (Z32++([Value.int .u64 0]++(([Value.int .i64 0]++[Value.slice none 0 0])++((Z32++(Z32++([Value.int .u64 0]++[Value.int .u64 0])))++([Value.slice none 0 0]))))) rep p) (w:World) (v:Value) (b:Byt) (hv:BytR (rdW w) v b) (hl:b.length≤70368744177664) :
  Calls Tryz.prog 19 #[v] w (GetsN w (RdE 102 (Z32++([Value.int .u64 0]++(([Value.int .i64 0]++[Value.slice none 0 0])++((Z32++(Z32++([Value.int .u64 0]++[Value.int .u64 0])))++([Value.slice none 0 0]))))) rep (allP p b))):=by
 refine Sy.enter (args:=[v]) Tryz.func19 rfl kL ?_
 refine sC ?_
 refine sM 54 (Z32++([Value.int .u64 0]++(([Value.int .i64 0]++[Value.slice none 0 0])++((Z32++(Z32++([Value.int .u64 0]++[Value.int .u64 0])))++([Value.slice none 0 0]))))).toArray (λg2=>?_)
 refine sP (.int .i64 0) ?_
 refine sA ?_
 refine sp rfl ?_
 refine Sy.callN kR 47 #[v,.func (.func 45) #[] #[]] kF _ (λw' hw=>read_cfg (rep:=rep) (p:=p) hm hp w' v b (hv.at hw) hl) (λu M hM=>?_)
 rcases hM with ⟨x,cs,o1,rfl,q2,q4⟩ | ⟨o1,rfl,rfl⟩
 ·have q3:∀ u∈cs,u.oneCell'=true:=hone q4
  refine sp rfl<|sp rfl<|sw 0 rfl cs.toArray (Writes.row 54 cs 102 _ _ rfl kR kR kR q2 (by kernel_rfl) q3)<|sp rfl ?_
  refine sG<|Sy.ret ?_
  exact Sy.retGM2 M rfl (.inl (Sy.Res.cell (ty':=54) g2 0 cs.toArray _ (by kernel_rfl) rfl Tryz.underlying54 rfl (by rw [List.size_toArray,q2]; kernel_rfl) rfl)) (.inl (show _=_ by kernel_rfl)) (λ_ h=>h.less (List.sublist_cons_self _ _)) (.inl ⟨x,cs,o1,rfl,q2,q4⟩)
 ·refine sp rfl<|sp rfl<|sw 0 rfl (Z32++([Value.int .u64 0]++(([Value.int .i64 0]++[Value.slice none 0 0])++((Z32++(Z32++([Value.int .u64 0]++[Value.int .u64 0])))++([Value.slice none 0 0]))))).toArray (wA rfl)<|sp rfl ?_
  refine sG<|Sy.ret ?_
  exact Sy.retGM2 [] rfl (.inl (Sy.Res.cell (ty':=54) g2 0 (Z32++([Value.int .u64 0]++(([Value.int .i64 0]++[Value.slice none 0 0])++((Z32++(Z32++([Value.int .u64 0]++[Value.int .u64 0])))++([Value.slice none 0 0]))))).toArray _ (by kernel_rfl) rfl Tryz.underlying54 rfl (by kernel_rfl) rfl)) (.inl (show _=_ by kernel_rfl)) (λ_ h=>h.none) (.inr ⟨o1,rfl,rfl⟩)
end Wr
end
section
namespace Cu
open Go.RowKit Sy
set_option maxRecDepth 100000
set_option maxHeartbeats 4000000
section
variable {P:Program} {w0:Base} {n:Nat} {F:Slots} {L:Blocks}
theorem retG {w1:World} {fn:Func} {r:ResultVar} {v:Value} {R:Value→Blocks→Prop} (i:Nat) (b:Nat×TypeId×Array Value) (hr:fn.results=#[r]) (h:Has P F L r v) (hb:L[i]? = some b) (hR:R v [b]):X (Base.of w1) n (bodyPost P fn (GetsN w1 R)) F L .ret:=λa w ha hw=>by
 refine bodyPost_ret (v:=v) ?_ ha.1 ⟨v,[b],rfl,hR,hw.below,λg t cs hm=>?_,by simp⟩
 ·rcases Res.run h ha hw with ⟨t,rfl,e1⟩ | ⟨t,ty,ad,rfl,e1,e2⟩ <;> simp [results,Result.andThen, *]
 ·obtain rfl:=List.mem_singleton.1 hm
  exact hw.blk _ _ _ (List.mem_of_getElem? hb)
end
theorem own_row {l:List UInt8} {k:Nat} {sp:List Value} (h:l.length=k):(((l.map bv++sp).toArray).toList.drop 0).take k=l.map bv:=by
 rw [List.drop_zero,List.take_append_of_le_length (by rw [List.length_map,h]; exact Nat.le_refl _),List.take_of_length_le (by rw [List.length_map,h]; exact Nat.le_refl _)]
theorem one_row (l:List UInt8):∀ u∈l.map bv,u.oneCell'=true:=λu hu=>by
 obtain ⟨x,_,rfl⟩:=List.mem_map.1 hu
 rfl
theorem bytesN_any (w:World) (x:Nat) (hx:x<K4):Calls Tryz.prog 220 #[fv x] w (GetsN w (λvq Mq=>∃ (g:Nat) (sp:List Value) (cap:Nat),vq=.slice (some ⟨g,0,none⟩) 32 cap∧Mq=[(g,5,((bytesS x).map bv++sp).toArray)])):=by
 refine (bytesR_any w x hx).mono ?_
 rintro e w' ⟨g,cap,rfl,ho,hl,hb⟩
 rcases ho.2 with ⟨h0,_⟩ | ⟨g',cap',cur,hv,hg,hk,_,q4,q5,q6⟩
 ·cases h0
 ·cases hv
  have hc:cur=((bytesS x).map bv++cur.toList.drop 32).toArray:=by
   rw [Nat.mul_one,bytesS_length] at q6
   rw [← q6,List.take_append_drop]
  refine ⟨_,[(g,5,cur)],rfl,⟨g,cur.toList.drop 32,cap,rfl,by rw [← hc]⟩,hb,λg1 t1 cs1 hm=>?_,by simp⟩
  simp only [List.mem_singleton,Prod.mk.injEq] at hm
  obtain ⟨rfl,rfl,rfl⟩:=hm
  exact ⟨by omega,hk⟩
theorem rem2 (w:World) (F:Slots) (o:Oper) (x y:Operand) (n:Nat) {yt:TypeId} (ho:o.op=.binOp .rem 22 x y yt) (hx:evF F x=.int .u64 (n:Int)) (hy:evF F y=.int .u64 2) (hn:n<18446744073709551616):(execOp (evF F) o).run Tryz.prog w=.ok (.value (.int .u64 ((n%2:Nat):Int))) w:=by
 have h:(binOp .rem 22 (.int .u64 (n:Int)) (.int .u64 2)).run Tryz.prog w=.ok (.int .u64 ((n%2:Nat):Int)) w:=by
  go_simp
  exact Int.tmod_eq_emod_of_nonneg (by omega)
 have h1:(eqGuard .rem 22 x y (.int .u64 (n:Int)) (.int .u64 2)).run Tryz.prog w=.ok () w:=by go_simp
 unfold execOp
 simp only [ho,hx,hy,Sem.run_bind,h1,h,Result.andThen_ok,Sem.run_pure]
theorem encW_none (w:World) (x y:Nat) (i:Bool) (hx:x<K4) (hy:y<K4) (h:dec x y i=none):Calls Tryz.prog 223 #[pv x y i] w (GetsN w (λvq Mq=>∃ (g:Nat) (sp:List Value) (cap:Nat),vq=.slice (some ⟨g,0,none⟩) 33 cap∧(33≤cap∧cap≤9223372036854775807)∧Mq=[(g,5,((encS none).map bv++sp).toArray)])):=by
 refine Sy.enter (args:=[pv x y i]) Tryz.func223 rfl kL ?_
 refine sC ?_
 refine sM 65 (pcs x y i) (λg0=>?_)
 refine sP (.slice none 0 0) ?_
 refine sA ?_
 refine sS (pv x y i) (qL 0 g0 0 9 65 65 (pcs x y i) rfl Tryz.underlying65)<|sS (pv 0 0 true) (qF 252 #[pv x y i] (λw=>by have hrr:=taken_c w x y i lK lK; rw [h] at hrr; exact hrr))<|sW 0 g0 65 (pcs x y i) (pcs 0 0 true) (wS 0 65 (pcs 0 0 true) rfl) ?_
 refine sA ?_
 refine Sy.make kR 5 (Zl 33).toArray (λg=>.slice (some ⟨g,0,none⟩) 33 33) kF (λg1=>?_)
 refine sP (.slice (some ⟨g1,0,none⟩) 33 33) ?_
 refine sG<|Sy.seq<|sC ?_
 refine sP (.pointer (some ⟨g0,8,none⟩))<|sS (.bool true) (qC 0 g0 8 65 4 (pcs 0 0 true) rfl Tryz.underlying4) ?_
 refine sG<|sT<|sC ?_
 refine sP (.slice (some ⟨g1,0,none⟩) 33 33)<|sP (.slice (some ⟨g1,0,none⟩) 33 33) ?_
 refine sG<|Sy.ret<|Sy.then_ret ?_
 exact retG 1 (g1,5,(Zl 33).toArray) rfl (v:=.slice (some ⟨g1,0,none⟩) 33 33) (.inl (show _=_ by kernel_rfl)) kR ⟨g1,[],33,rfl,⟨by decide,by decide⟩,by kernel_rfl⟩
theorem encW_even (w:World) (x y:Nat) (i:Bool) (hx:x<K4) (hy:y<K4) (u v:Fp) (h:dec x y i=some (u,v)) (hv:v.val%2=0):Calls Tryz.prog 223 #[pv x y i] w (GetsN w (λvq Mq=>∃ (g:Nat) (sp:List Value) (cap:Nat),vq=.slice (some ⟨g,0,none⟩) 33 cap∧(33≤cap∧cap≤9223372036854775807)∧Mq=[(g,5,((encS (some (u,v))).map bv++sp).toArray)])):=by
 have hv2:v.val%18446744073709551616%2=0:=by omega
 refine Sy.enter (args:=[pv x y i]) Tryz.func223 rfl kL ?_
 refine sC ?_
 refine sM 65 (pcs x y i) (λg0=>?_)
 refine sP (.slice none 0 0) ?_
 refine sA ?_
 refine sS (pv x y i) (qL 0 g0 0 9 65 65 (pcs x y i) rfl Tryz.underlying65)<|sS (pv u.val v.val false) (qF 252 #[pv x y i] (λw=>by have hrr:=taken_c w x y i lK lK; rw [h] at hrr; exact hrr))<|sW 0 g0 65 (pcs x y i) (pcs u.val v.val false) (wS 0 65 (pcs u.val v.val false) rfl) ?_
 refine sA ?_
 refine Sy.make kR 5 (Zl 33).toArray (λg=>.slice (some ⟨g,0,none⟩) 33 33) kF (λg1=>?_)
 refine sP (.slice (some ⟨g1,0,none⟩) 33 33) ?_
 refine sG<|Sy.seq<|sC ?_
 refine sP (.pointer (some ⟨g0,8,none⟩))<|sS (.bool false) (qC 0 g0 8 65 4 (pcs u.val v.val false) rfl Tryz.underlying4) ?_
 refine sG<|sU<|Sy.skip<|sB ?_
 refine sP (.pointer (some ⟨g0,4,none⟩))<|sP (.pointer (some ⟨g0,4,none⟩))<|sS (qv (v.val%18446744073709551616)) (qC 0 g0 4 65 22 (pcs u.val v.val false) rfl Tryz.underlying22)<|sS (.int .u64 0) (Quiet.pure (λw=>(rem2 w _ _ _ _ (v.val%18446744073709551616) rfl rfl rfl (Nat.mod_lt _ (by decide))).trans (by rw [hv2]; rfl)))<|sP (.int .u64 2)<|sP (bv 2) ?_
 refine Sy.make kR 5 #[bv 2] (λg=>.slice (some ⟨g,0,none⟩) 1 1) kF (λg2=>?_)
 refine sP (.slice (some ⟨g2,0,none⟩) 1 1) ?_
 refine sA ?_
 refine sP (.slice (some ⟨g2,0,none⟩) 1 1)<|sP (.pointer (some ⟨g0,0,none⟩))<|sS (fv u.val) (qL 0 g0 0 4 65 63 (pcs u.val v.val false) rfl Tryz.underlying63)<|sS (fv u.val) (qF 221 #[fv u.val] (λw=>refOf_any w u.val lK)) ?_
 refine Sy.callN kR 220 #[fv u.val] kF (λvq Mq=>∃ (g:Nat) (sp:List Value) (cap:Nat),vq=.slice (some ⟨g,0,none⟩) 32 cap∧Mq=[(g,5,((bytesS u.val).map bv++sp).toArray)]) (λw _=>bytesN_any w u.val (lt4 _)) (λvq Mq hR0=>?_)
 obtain ⟨g9,sp9,cp9,rfl,rfl⟩:=hR0
 refine Sy.append kR 27 5 _ _ Tryz.underlying27 info_u8 rfl rfl rfl rfl _ _ rfl 2 g2 1 1 #[bv 2] [bv 2] kR kR kR rfl kR (by decide) 3 g9 0 32 cp9 5 ((bytesS u.val).map bv++sp9).toArray ((bytesS u.val).map bv) kR kR (own_row (bytesS_length _)) (by rw [List.length_map]; exact (bytesS_length _)) (one_row _) (by decide) (λq1 c1 s1 e1 m1=>?_)
 refine sP (.slice (some ⟨q1,0,none⟩) (1+32) c1) ?_
 refine sG<|Sy.ret ?_
 exact retG 2 (q1,5,([bv 2]++((bytesS u.val).map bv++s1)).toArray) rfl (v:=.slice (some ⟨q1,0,none⟩) (1+32) c1) (.inl (show _=_ by kernel_rfl)) kR ⟨q1,s1,c1,rfl,⟨by omega,by simp only [maxLen] at m1; omega⟩,by rw [show encS (some (u,v))=2::bytesS u.val from by show (if v.val%2=1 then (3:UInt8) else 2)::bytesS u.val=_; rw [if_neg (by omega)]]; rfl⟩
theorem encW_odd (w:World) (x y:Nat) (i:Bool) (hx:x<K4) (hy:y<K4) (u v:Fp) (h:dec x y i=some (u,v)) (hv:v.val%2=1):Calls Tryz.prog 223 #[pv x y i] w (GetsN w (λvq Mq=>∃ (g:Nat) (sp:List Value) (cap:Nat),vq=.slice (some ⟨g,0,none⟩) 33 cap∧(33≤cap∧cap≤9223372036854775807)∧Mq=[(g,5,((encS (some (u,v))).map bv++sp).toArray)])):=by
 have hv2:v.val%18446744073709551616%2=1:=by omega
 refine Sy.enter (args:=[pv x y i]) Tryz.func223 rfl kL ?_
 refine sC ?_
 refine sM 65 (pcs x y i) (λg0=>?_)
 refine sP (.slice none 0 0) ?_
 refine sA ?_
 refine sS (pv x y i) (qL 0 g0 0 9 65 65 (pcs x y i) rfl Tryz.underlying65)<|sS (pv u.val v.val false) (qF 252 #[pv x y i] (λw=>by have hrr:=taken_c w x y i lK lK; rw [h] at hrr; exact hrr))<|sW 0 g0 65 (pcs x y i) (pcs u.val v.val false) (wS 0 65 (pcs u.val v.val false) rfl) ?_
 refine sA ?_
 refine Sy.make kR 5 (Zl 33).toArray (λg=>.slice (some ⟨g,0,none⟩) 33 33) kF (λg1=>?_)
 refine sP (.slice (some ⟨g1,0,none⟩) 33 33) ?_
 refine sG<|Sy.seq<|sC ?_
 refine sP (.pointer (some ⟨g0,8,none⟩))<|sS (.bool false) (qC 0 g0 8 65 4 (pcs u.val v.val false) rfl Tryz.underlying4) ?_
 refine sG<|sU<|Sy.skip<|sB ?_
 refine sP (.pointer (some ⟨g0,4,none⟩))<|sP (.pointer (some ⟨g0,4,none⟩))<|sS (qv (v.val%18446744073709551616)) (qC 0 g0 4 65 22 (pcs u.val v.val false) rfl Tryz.underlying22)<|sS (.int .u64 1) (Quiet.pure (λw=>(rem2 w _ _ _ _ (v.val%18446744073709551616) rfl rfl rfl (Nat.mod_lt _ (by decide))).trans (by rw [hv2]; rfl)))<|sP (.int .u64 3)<|sP (bv 3) ?_
 refine Sy.make kR 5 #[bv 3] (λg=>.slice (some ⟨g,0,none⟩) 1 1) kF (λg2=>?_)
 refine sP (.slice (some ⟨g2,0,none⟩) 1 1) ?_
 refine sA ?_
 refine sP (.slice (some ⟨g2,0,none⟩) 1 1)<|sP (.pointer (some ⟨g0,0,none⟩))<|sS (fv u.val) (qL 0 g0 0 4 65 63 (pcs u.val v.val false) rfl Tryz.underlying63)<|sS (fv u.val) (qF 221 #[fv u.val] (λw=>refOf_any w u.val lK)) ?_
 refine Sy.callN kR 220 #[fv u.val] kF (λvq Mq=>∃ (g:Nat) (sp:List Value) (cap:Nat),vq=.slice (some ⟨g,0,none⟩) 32 cap∧Mq=[(g,5,((bytesS u.val).map bv++sp).toArray)]) (λw _=>bytesN_any w u.val (lt4 _)) (λvq Mq hR0=>?_)
 obtain ⟨g9,sp9,cp9,rfl,rfl⟩:=hR0
 refine Sy.append kR 27 5 _ _ Tryz.underlying27 info_u8 rfl rfl rfl rfl _ _ rfl 2 g2 1 1 #[bv 3] [bv 3] kR kR kR rfl kR (by decide) 3 g9 0 32 cp9 5 ((bytesS u.val).map bv++sp9).toArray ((bytesS u.val).map bv) kR kR (own_row (bytesS_length _)) (by rw [List.length_map]; exact (bytesS_length _)) (one_row _) (by decide) (λq1 c1 s1 e1 m1=>?_)
 refine sP (.slice (some ⟨q1,0,none⟩) (1+32) c1) ?_
 refine sG<|Sy.ret ?_
 exact retG 2 (q1,5,([bv 3]++((bytesS u.val).map bv++s1)).toArray) rfl (v:=.slice (some ⟨q1,0,none⟩) (1+32) c1) (.inl (show _=_ by kernel_rfl)) kR ⟨q1,s1,c1,rfl,⟨by omega,by simp only [maxLen] at m1; omega⟩,by rw [show encS (some (u,v))=3::bytesS u.val from by show (if v.val%2=1 then (3:UInt8) else 2)::bytesS u.val=_; rw [if_pos (by omega)]]; rfl⟩
theorem encW_any (w:World) (x y:Nat) (i:Bool) (hx:x<K4) (hy:y<K4):Calls Tryz.prog 223 #[pv x y i] w (GetsN w (λvq Mq=>∃ (g:Nat) (sp:List Value) (cap:Nat),vq=.slice (some ⟨g,0,none⟩) 33 cap∧(33≤cap∧cap≤9223372036854775807)∧Mq=[(g,5,((encS (dec x y i)).map bv++sp).toArray)])):=by
 rcases h:dec x y i with _ | ⟨u,v⟩
 ·exact encW_none w x y i hx hy h
 ·rcases Nat.mod_two_eq_zero_or_one v.val with hv | hv
  ·exact encW_even w x y i hx hy u v h hv
  ·exact encW_odd w x y i hx hy u v h hv
theorem encR_any (w:World) (x y:Nat) (i:Bool) (hx:x<K4) (hy:y<K4):Calls Tryz.prog 223 #[pv x y i] w (GetsN w (λvq Mq=>∃ (g:Nat) (sp:List Value) (cap:Nat),vq=.slice (some ⟨g,0,none⟩) 33 cap∧Mq=[(g,5,((encS (dec x y i)).map bv++sp).toArray)])):=by
 refine (encW_any w x y i hx hy).mono ?_
 rintro e w' ⟨v,M,h1,⟨g,sp,cap,h2,_,h3⟩,h4⟩
 exact ⟨v,M,h1,⟨g,sp,cap,h2,h3⟩,h4⟩
end Cu
end
section
section
open Go.RowKit Go.Lib
set_option maxHeartbeats 8000000 in
set_option maxRecDepth 100000 in
theorem numberR_any (w:World) (g cap:Nat) (l:List UInt8) (hl:l.length=32) (hg:g<w.heap.size) (hcell:∀ j u,l[j]? = some u→w.cell? ⟨g,j,none⟩=some (bv u)) (_:32≤cap) (_:cap≤9223372036854775807):Calls Tryz.prog 224 #[.slice (some ⟨g,0,none⟩) 32 cap] w λe w'=>e=.returned (fv (valB l))∧Below w.heap.size w w':=by
 have HL:=Lib.hid hl
 have HG:=Lib.hid hcell
 clear hl hcell
 go_enter Tryz.func224,Tryz.ntmps224
 go_wp2_with fail
 go_loopw [4] (λi wr=>∃ k y0 y1 y2 y3:Nat,k≤32∧i=.int .i64 (k:Int)∧Hid (y0=wdB l k 0∧y1=wdB l k 1∧y2=wdB l k 2∧y3=wdB l k 3)∧Below w.heap.size w wr∧Blk wr (w.heap.size+1) 363 #[.int .u64 (y3:Int),.int .u64 (y2:Int),.int .u64 (y1:Int),.int .u64 (y0:Int)]∧Blk wr w.heap.size 363 #[.int .u64 0,.int .u64 0,.int .u64 0,.int .u64 0]) (λi _=>32 - (intOf i).toNat)
 case atStart=>exact ⟨0,0,0,0,0,by omega,rfl,Lib.hid ⟨(wdB_zero l 0).symm,(wdB_zero l 1).symm,(wdB_zero l 2).symm,(wdB_zero l 3).symm⟩,below_alloc2 w _ _,blk_new2 w _ _ _,(Blk.new w _ _).alloc _⟩
 case round =>
  obtain ⟨k,y0,y1,y2,y3,hk,rfl,HY,hb,hP,hR⟩:=hrel
  have q3:wr.cell? ⟨w.heap.size+1,0,none⟩=some (.int .u64 (y3:Int)):=hP.cell 0
  have q2:wr.cell? ⟨w.heap.size+1,1,none⟩=some (.int .u64 (y2:Int)):=hP.cell 1
  have q1:wr.cell? ⟨w.heap.size+1,2,none⟩=some (.int .u64 (y1:Int)):=hP.cell 2
  have q0:wr.cell? ⟨w.heap.size+1,3,none⟩=some (.int .u64 (y0:Int)):=hP.cell 3
  have ff:∀ j,wr.frozen? ⟨w.heap.size+1,j,none⟩=false:=λj=>hP.frozen j
  by_cases hlt:k<32
  ·obtain ⟨c,hc⟩:∃ c,l[k]? = some c:=⟨l[k]'(by rw [HL.out]; exact hlt),List.getElem?_eq_getElem _⟩
   have HC:=Lib.hid hc
   obtain ⟨m,hm⟩:∃ m,m=c.toNat:=⟨_,rfl⟩
   have hm8:m<256:=by rw [hm]; exact c.toNat_lt
   have hI:wr.cell? ⟨g,k,none⟩=some (.int .u8 (m:Int)):=by
    rw [hm]
    exact (hb.cell (p:=⟨g,k,none⟩) hg).trans (HG.out k c hc)
   have HM:=Lib.hid hm
   have HR:=Lib.hid (And.intro hb (And.intro hP hR))
   clear hb hP hR hc hk hm
   rcases (show k=0∨k=1∨k=2∨k=3∨k=4∨k=5∨k=6∨k=7∨k=8∨k=9∨k=10∨k=11∨k=12∨k=13∨k=14∨k=15∨k=16∨k=17∨k=18∨k=19∨k=20∨k=21∨k=22∨k=23∨k=24∨k=25∨k=26∨k=27∨k=28∨k=29∨k=30∨k=31 by omega) with rfl | rfl | rfl | rfl | rfl | rfl | rfl | rfl | rfl | rfl | rfl | rfl | rfl | rfl | rfl | rfl | rfl | rfl | rfl | rfl | rfl | rfl | rfl | rfl | rfl | rfl | rfl | rfl | rfl | rfl | rfl | rfl
   all_goals
    first
    | ((have hy:y0<72057594037927936:=by rw [HY.out.1]; exact wdB_lt l _ 0 (by decide)); go_wp2; go_region; all_goals go_wp2; all_goals (refine ⟨⟨_,y0*256+m,y1,y2,y3,by decide,rfl,Lib.hid ⟨by rw [HY.out.1,HM.out]; exact (wdB_step l _ 0 c HC.out (by decide)).symm,by rw [HY.out.2.1]; exact (wdB_same l _ 1 (by decide)).symm,by rw [HY.out.2.2.1]; exact (wdB_same l _ 2 (by decide)).symm,by rw [HY.out.2.2.2]; exact (wdB_same l _ 3 (by decide)).symm⟩,(HR.out.1.setCell (by show w.heap.size≤w.heap.size+1; omega) _).drew,Blk.drew (Blk.eq_ (HR.out.2.1.set_ 3 _) (by rw [show ((y0*256+m:Nat):Int)=(y0:Int)*256+(m:Int) by omega]; rfl)),Blk.drew (HR.out.2.2.far (by show w.heap.size≠w.heap.size+1; omega) _)⟩,by simp [intOf]⟩))
    | ((have hy:y1<72057594037927936:=by rw [HY.out.2.1]; exact wdB_lt l _ 1 (by decide)); go_wp2; go_region; all_goals go_wp2; all_goals (refine ⟨⟨_,y0,y1*256+m,y2,y3,by decide,rfl,Lib.hid ⟨by rw [HY.out.1]; exact (wdB_same l _ 0 (by decide)).symm,by rw [HY.out.2.1,HM.out]; exact (wdB_step l _ 1 c HC.out (by decide)).symm,by rw [HY.out.2.2.1]; exact (wdB_same l _ 2 (by decide)).symm,by rw [HY.out.2.2.2]; exact (wdB_same l _ 3 (by decide)).symm⟩,(HR.out.1.setCell (by show w.heap.size≤w.heap.size+1; omega) _).drew,Blk.drew (Blk.eq_ (HR.out.2.1.set_ 2 _) (by rw [show ((y1*256+m:Nat):Int)=(y1:Int)*256+(m:Int) by omega]; rfl)),Blk.drew (HR.out.2.2.far (by show w.heap.size≠w.heap.size+1; omega) _)⟩,by simp [intOf]⟩))
    | ((have hy:y2<72057594037927936:=by rw [HY.out.2.2.1]; exact wdB_lt l _ 2 (by decide)); go_wp2; go_region; all_goals go_wp2; all_goals (refine ⟨⟨_,y0,y1,y2*256+m,y3,by decide,rfl,Lib.hid ⟨by rw [HY.out.1]; exact (wdB_same l _ 0 (by decide)).symm,by rw [HY.out.2.1]; exact (wdB_same l _ 1 (by decide)).symm,by rw [HY.out.2.2.1,HM.out]; exact (wdB_step l _ 2 c HC.out (by decide)).symm,by rw [HY.out.2.2.2]; exact (wdB_same l _ 3 (by decide)).symm⟩,(HR.out.1.setCell (by show w.heap.size≤w.heap.size+1; omega) _).drew,Blk.drew (Blk.eq_ (HR.out.2.1.set_ 1 _) (by rw [show ((y2*256+m:Nat):Int)=(y2:Int)*256+(m:Int) by omega]; rfl)),Blk.drew (HR.out.2.2.far (by show w.heap.size≠w.heap.size+1; omega) _)⟩,by simp [intOf]⟩))
    | ((have hy:y3<72057594037927936:=by rw [HY.out.2.2.2]; exact wdB_lt l _ 3 (by decide)); go_wp2; go_region; all_goals go_wp2; all_goals (refine ⟨⟨_,y0,y1,y2,y3*256+m,by decide,rfl,Lib.hid ⟨by rw [HY.out.1]; exact (wdB_same l _ 0 (by decide)).symm,by rw [HY.out.2.1]; exact (wdB_same l _ 1 (by decide)).symm,by rw [HY.out.2.2.1]; exact (wdB_same l _ 2 (by decide)).symm,by rw [HY.out.2.2.2,HM.out]; exact (wdB_step l _ 3 c HC.out (by decide)).symm⟩,(HR.out.1.setCell (by show w.heap.size≤w.heap.size+1; omega) _).drew,Blk.drew (Blk.eq_ (HR.out.2.1.set_ 0 _) (by rw [show ((y3*256+m:Nat):Int)=(y3:Int)*256+(m:Int) by omega]; rfl)),Blk.drew (HR.out.2.2.far (by show w.heap.size≠w.heap.size+1; omega) _)⟩,by simp [intOf]⟩))
  ·have p1:¬ (k:Int)<32:=by omega
   obtain rfl:k=32:=by omega
   have b0:y0<18446744073709551616:=by rw [HY.out.1]; exact wdB_lt8 l _ _
   have b1:y1<18446744073709551616:=by rw [HY.out.2.1]; exact wdB_lt8 l _ _
   have b2:y2<18446744073709551616:=by rw [HY.out.2.2.1]; exact wdB_lt8 l _ _
   have b3:y3<18446744073709551616:=by rw [HY.out.2.2.2]; exact wdB_lt8 l _ _
   obtain ⟨z,hz⟩:∃ z,z=y3+18446744073709551616*y2+340282366920938463463374607431768211456*y1+6277101735386680763835789423207666416102355444464034512896*y0:=⟨_,rfl⟩
   have fz:=fv_mk y3 y2 y1 y0 b3 b2 b1 b0
   rw [← hz] at fz
   have hzv:valB l=z:=by rw [wdB_all l HL.out,hz,HY.out.1,HY.out.2.1,HY.out.2.2.1,HY.out.2.2.2]
   have HZ:=Lib.hid hzv
   have FZ:=Lib.hid fz.symm
   have HP:=Lib.hid hP
   have HR:=Lib.hid hR
   clear HY b0 b1 b2 b3 hz fz hzv q0 q1 q2 q3 ff hP hR
   go_wp2_with (first | ((with_reducible refine here_load (d:=some 31) ?_); refine wpList_load_fv rfl _ _ rfl (w.heap.size+1) rfl (z) _ _ _ (HP.out) (FZ.out) Tryz.underlying363 rfl (by kernel_rfl) ?_) | ((with_reducible refine here_store ?_); refine wpList_store_blk rfl _ _ _ rfl (w.heap.size) (fcs (z)) rfl rfl _ _ (HR.out) (by kernel_rfl) (by rfl) (fcs_one _) ?_; intro vz hLz hqz hKz))
   exact bodyPost_ret (results_cell_row rfl _ _ w.heap.size _ _ (0,0) _ rfl hLz Tryz.underlying363 rfl (by kernel_rfl)) rfl ⟨by rw [HZ.out]; rfl,hb.trans (hqz _ (by omega))⟩
end
end
section
namespace Sy
open Go.RowKit
section
variable {P:Program} {w0:Base} {n:Nat} {Q:Exit→Act→World→Prop} {F:Slots} {L:Blocks}
theorem loopIR {c:Code} (N:Nat) (I:Nat→Act→World→Prop) (h0:∀ a w,Fr w0.ds a n F→St w0 w L→I 0 a w)
  (hr:∀ i,i≤N→∀ a w,I i a w→c.wpIn w0.fence w0.room P (Exit.then (λa w=>i<N∧I (i+1) a w) Q) a w):wpR P w0 n c Q (N+1) F L:=λa w ha hw=>by
 have key:∀ k i,i+k=N→∀ a w,I i a w→Code.roundsIn w0.fence w0.room P c Q (k+1) a w:=by
  intro k
  induction k with
  | zero =>
   intro i hi a w h
   refine wpIn_mono (hr i (by omega) a w h) λe a w hq=>?_
   cases e <;> first | exact hq | exact absurd hq.1 (by omega)
  | succ k ih =>
   intro i hi a w h
   refine wpIn_mono (hr i (by omega) a w h) λe a w hq=>?_
   cases e <;> first | exact hq | exact ih (i+1) (by omega) a w hq.2
 exact key N 0 (by omega) a w (h0 a w ha hw)
theorem loopXR {T:Type} {c:Code} (N:Nat) (FF:Nat→T→Slots) (LL:Nat→T→Blocks) (H:Nat→T→Prop) (x0:T) (m:List Bool) (h0:H 0 x0) (hF:∀ p∈FF 0 x0,F.lookup p.1=some p.2) (hL:sel L m=LL 0 x0)
  (hr:∀ k x,k≤N→H k x→wpC P w0 n (Exit.then (NextX w0 n N FF LL H k) Q) (FF k x) (LL k x) c):wpR P w0 n c Q (N+1) F L :=
 loopIR N (λk a w=>∃ x,H k x∧Fr w0.ds a n (FF k x)∧St w0 w (LL k x)) (λ_ _ ha hw=>⟨x0,h0,ha.all hF,hL ▸ hw.less (sel_sub L m)⟩)
  λk hk a w ⟨x,hx,ha,hw⟩=>hr k x hk hx a w ha hw
end
theorem apd_take (l:List UInt8) (k:Nat) {n:Nat} (hl:l.length=n) (s:List Value) (hk:k<n):((l.take k).map bv++([bv (l.getD k 0)]++s)).toArray.toList.take (k+1)=(l.take (k+1)).map bv:=by
 have hlt:k<l.length:=by omega
 have e:((l.take k).map bv).length=k:=by simp; omega
 rw [show ((l.take k).map bv++([bv (l.getD k 0)]++s)).toArray.toList=(l.take k).map bv++([bv (l.getD k 0)]++s) from rfl,List.take_append,e,List.take_of_length_le (by omega),Nat.add_sub_cancel_left,List.take_succ_eq_append_getElem hlt,List.map_append]
 congr 1
 simp [List.getD,hlt]
theorem apd_len (l:List UInt8) (k:Nat) {n:Nat} (hl:l.length=n) (hk:k<n):((l.take (k+1)).map bv).length=k+1:=by simp; omega
theorem apd_size (l:List UInt8) (k:Nat) {n:Nat} (hl:l.length=n) (s:List Value) {c:Nat} (hc:s.length+(k+1)=c) (hk:k<n):((l.take k).map bv++([bv (l.getD k 0)]++s)).toArray.size=c:=by simp; omega
theorem apd_full (l:List UInt8) (k:Nat) (hl:l.length=k+1) {s:List Value}:((l.take k).map bv++([bv (l.getD k 0)]++s))=l.map bv++s:=by
 have hlt:k<l.length:=by omega
 have e:l=l.take k++[l.getD k 0]:=by
  have h2:=List.take_succ_eq_append_getElem hlt
  rw [List.take_of_length_le (by omega)] at h2
  rw [List.getD_eq_getElem?_getD,List.getElem?_eq_getElem hlt]
  exact h2
 conv=>rhs; rw [e,List.map_append,List.append_assoc]
 rfl
theorem key_sym {l:List UInt8} {n:Nat} (h:l.length=n) {k o:Nat} (hk:k<n) (ho:o=k):((l.map bv).toArray)[o]? = some (bv (l.getD k 0)):=by
 subst h ho
 rw [List.getElem?_toArray,List.getElem?_map,List.getD_eq_getElem?_getD,List.getElem?_eq_getElem hk]
 rfl
end Sy
end
section
namespace Cu
open Go.RowKit Sy
theorem own_cellE {w:World} {g:Nat} {t:TypeId} {m:List UInt8} {sp:List Value} (hb:Blk w g t (m.map bv++sp).toArray) (j:Nat) (u:UInt8) (hj:m[j]? = some u):w.cell? ⟨g,j,none⟩=some (bv u):=by
 refine (hb.cell j).trans ?_
 have hl:=(List.getElem?_eq_some_iff.1 hj).1
 rw [List.getElem?_toArray,List.getElem?_append_left (by rw [List.length_map]; exact hl),List.getElem?_map,hj]
 rfl
set_option maxHeartbeats 4000000 in
set_option maxRecDepth 100000 in
theorem liftR_any (w:World) (l:List UInt8) (hl:l.length=32):Calls Tryz.prog 254 #[.agg (l.map bv).toArray] w (Gets w (.tuple #[ptv (liftP l),.bool (liftB l)])):=by
 have hv:=valB_lt32 l hl
 refine Sy.enter (args:=[.agg (l.map bv).toArray]) Tryz.func254 rfl kL ?_
 refine sC ?_
 refine sM 220 (l.map bv).toArray (λg0=>?_)
 refine sM 65 (pcs 0 0 false) (λg1=>?_)
 refine sP (.bool false) ?_
 refine sA ?_
 refine sP (.slice none 0 0) ?_
 refine sG<|Sy.seq<|sC ?_
 refine sP (.int .i64 0) ?_
 refine sG<|Sy.block ?_
 refine Sy.loopN (31+1+1) ?_
 refine Sy.round<|Sy.seq<|sC ?_
 refine sP (.int .i64 0)<|sP (.bool true) ?_
 refine sG<|sT<|Sy.skip<|Sy.then_<|Sy.seq<|Sy.block<|Sy.region ?_
 refine sP (.slice none 0 0)<|sP (.int .i64 0)<|sP (.pointer (some ⟨g0,0,none⟩))<|sS (bv (l.getD 0 0)) (Quiet.cell 0 g0 0 220 5 (l.map bv).toArray _ _ rfl kR kR Tryz.underlying5 rfl _ (key_at l hl 0 (by decide))) ?_
 refine Sy.make kR 5 #[bv (l.getD 0 0)] (λg=>.slice (some ⟨g,0,none⟩) 1 1) kF (λg2=>?_)
 refine Sy.appendNil kR 27 5 _ _ Tryz.underlying27 info_u8 rfl rfl rfl rfl _ _ rfl kR 2 g2 0 1 1 5 #[bv (l.getD 0 0)] [bv (l.getD 0 0)] kR kR kR rfl (by decide) (by intro u hu; simp only [List.mem_cons,List.not_mem_nil,or_false] at hu; subst hu; rfl) (by decide) (λq1 c1 s1 e1 m1=>?_)
 refine sP (.slice (some ⟨q1,0,none⟩) 1 c1) ?_
 refine Sy.nil<|Sy.in_<|Sy.then_<|Sy.region ?_
 refine sP (.int .i64 0)<|sP (.int .i64 1)<|sP (.int .i64 1) ?_
 refine Sy.nil<|Sy.again ?_
 refine Sy.loopXR (T:=Nat×Nat×List Value) 31 (λk1 y1=>[(1,.pointer (some ⟨g0,0,none⟩)),(2,.pointer (some ⟨g1,0,none⟩)),(4,.slice (some ⟨y1.1,0,none⟩) (k1+1) y1.2.1),(5,.int .i64 ((k1+1:Nat):Int))]) (λk1 y1=>[(g0,220,(l.map bv).toArray),(g1,65,(pcs 0 0 false)),(y1.1,5,((l.take k1).map bv++([bv (l.getD k1 0)]++y1.2.2)).toArray)]) (λk1 y1=>y1.2.2.length+(k1+1)=y1.2.1∧y1.2.1≤maxLen) (q1,c1,s1) [true,true,false,true] ⟨e1,m1⟩ (all_cons kR (all_cons kR (all_cons kR (all_cons kR all_nil)))) kR (λk1 y1 hk1 hh1=>?_)
 refine Sy.seq<|sC ?_
 refine sP (.int .i64 ((k1+1:Nat):Int)) ?_
 obtain ⟨b1,hb1⟩:∃ z:Bool,z=decide (k1+1<32):=⟨_,rfl⟩
 refine sS (.bool b1) (Quiet.pure (exec_int .lss _ _ _ .i64 _ _ _ rfl rfl rfl (int_lss _ _ _ _ _ (by rw [hb1]; exact decide_eq_decide.2 (by omega))))) ?_
 refine sG ?_
 cases b1
 ·have lb1:¬ (k1+1<32):=of_decide_eq_false hb1.symm
  refine sU<|Sy.exit<|Sy.then_exit<|Sy.then_exit ?_
  obtain rfl:k1=31:=by omega
  have hcp:32≤y1.2.1∧y1.2.1≤9223372036854775807:=by
   have q:=hh1
   simp only [maxLen] at q
   exact ⟨by omega,by omega⟩
  refine Sy.in_exit<|Sy.then_ ?_
  refine Sy.tidyC (G:=[(1,.pointer (some ⟨g0,0,none⟩)),(2,.pointer (some ⟨g1,0,none⟩)),(4,.slice (some ⟨y1.1,0,none⟩) 32 y1.2.1)]) (N:=[(g0,220,(l.map bv).toArray),(g1,65,(pcs 0 0 false)),(y1.1,5,(l.map bv++y1.2.2).toArray)]) [true,true,true] rfl (bcons rfl (bcons rfl (bcons (beq (congrArg List.toArray (apd_full l 31 hl))) rfl))) (all_cons kR (all_cons kR (all_cons kR all_nil))) ?_
  refine sC ?_
  refine sP (.slice (some ⟨y1.1,0,none⟩) 32 y1.2.1)<|sS (fv (valB l)) (qG 224 #[.slice (some ⟨y1.1,0,none⟩) 32 y1.2.1] (λw hw=>numberR_any w y1.1 y1.2.1 l hl (hw.get (i:=2) rfl).lt (own_cellE (hw.get (i:=2) rfl)) hcp.1 hcp.2)) ?_
  refine sM 363 (fcs 0) (λg3=>?_)
  refine sW 3 g3 363 (fcs 0) (fcs (valB l)) (wS 0 363 (fcs (valB l)) rfl) ?_
  refine sA ?_
  refine sS (fv (valB l)) (qL 3 g3 0 4 363 363 (fcs (valB l)) rfl Tryz.underlying363) ?_
  obtain ⟨z1,hz1⟩:∃ z:Nat,z=cubeN (valB l):=⟨_,rfl⟩
  have lz1:z1<K4:=by rw [hz1]; exact cubeN_lt _
  refine sS (fv z1) (qF 251 #[fv (valB l)] (λw=>by rw [hz1]; exact cubeR_n w (valB l) lK)) ?_
  obtain ⟨r1,hr1⟩:∃ z:Nat,z=(sqrtS z1).1:=⟨_,rfl⟩
  obtain ⟨k1,hk1⟩:∃ z:Bool,z=(sqrtS z1).2:=⟨_,rfl⟩
  have lr1:r1<K4:=by rw [hr1]; exact sqrt_lt _
  refine sS (.tuple #[fv r1,.bool k1]) (qF 277 #[fv z1] (λw=>by rw [hr1,hk1, ← sqrt_is]; exact sqrtR_any w z1 lK))<|sP (.tuple #[fv r1,.bool k1])<|sP (fv r1)<|sP (.bool k1) ?_
  refine sM 363 (fcs 0) (λg4=>?_)
  refine sW 4 g4 363 (fcs 0) (fcs r1) (wS 0 363 (fcs r1) rfl)<|sP (.bool k1) ?_
  refine sH (λj=>false) ?_
  refine sD 0 rfl (.agg modcs) (qF 249 #[] (refP_any))<|sD 1 rfl (fv (valB l)) (qL 3 g3 0 4 363 363 (fcs (valB l)) rfl Tryz.underlying363) ?_
  obtain ⟨b2,hb2⟩:∃ z:Bool,z=decide ((valB l)<pM):=⟨_,rfl⟩
  refine sD 2 rfl (.bool b2) (qF 225 #[.agg modcs,fv (valB l)] (λw=>by rw [hb2]; exact rightR_any w (valB l) lK))<|sZ 3 rfl (.bool b2) ?_
  refine sI ?_
  refine Sy.seq<|sC ?_
  refine sP (.bool k1) ?_
  cases k1
  ·refine sP (.bool true)<|sP (.bool true) ?_
   refine sN<|sN ?_
   refine sP (.bool true) ?_
   refine sG<|sT<|sC ?_
   refine sS (pv 0 0 true) (qF 248 #[] (zeroR_c))<|sW 1 g1 65 (pcs 0 0 false) (pcs 0 0 true) (wS 0 65 (pcs 0 0 true) rfl)<|sP (.bool false) ?_
   refine sG<|Sy.ret<|Sy.then_ret ?_
   rw [show (.tuple #[ptv (liftP l),.bool (liftB l)]:Value)=.tuple #[pv 0 0 true,.bool false] from by
    have hb:liftB l=false:=by unfold liftB; rw [← hz1, ← hk1]; simp
    rw [hb,lift_no hb]; rfl]
   exact Sy.ret2 (v:=pv 0 0 true) (u:=.bool false) rfl (.inl (Res.cell (ty':=65) g1 1 (pcs 0 0 true) _ kR kR Tryz.underlying65 rfl kR kR)) (.inl (show _=_ by kernel_rfl))
  ·refine sP (.bool false)<|sP (.bool false)<|sP (.bool b2) ?_
   cases b2
   ·refine sP (.bool true)<|sP (.bool true) ?_
    refine sG<|sT<|sC ?_
    refine sS (pv 0 0 true) (qF 248 #[] (zeroR_c))<|sW 1 g1 65 (pcs 0 0 false) (pcs 0 0 true) (wS 0 65 (pcs 0 0 true) rfl)<|sP (.bool false) ?_
    refine sG<|Sy.ret<|Sy.then_ret ?_
    rw [show (.tuple #[ptv (liftP l),.bool (liftB l)]:Value)=.tuple #[pv 0 0 true,.bool false] from by
     have hb:liftB l=false:=by unfold liftB; rw [← hb2]; simp
     rw [hb,lift_no hb]; rfl]
    exact Sy.ret2 (v:=pv 0 0 true) (u:=.bool false) rfl (.inl (Res.cell (ty':=65) g1 1 (pcs 0 0 true) _ kR kR Tryz.underlying65 rfl kR kR)) (.inl (show _=_ by kernel_rfl))
   ·refine sP (.bool false)<|sP (.bool false) ?_
    refine sG<|sU<|Sy.skip<|sB ?_
    refine sS (fv (valB l)) (qL 3 g3 0 4 363 363 (fcs (valB l)) rfl Tryz.underlying363)<|sS (fv r1) (qL 4 g4 0 4 363 363 (fcs r1) rfl Tryz.underlying363)<|sS (pv (valB l) r1 false) (qF 278 #[fv (valB l),fv r1] (λw=>pointR_c w (valB l) r1 lK lK))<|sW 1 g1 65 (pcs 0 0 false) (pcs (valB l) r1 false) (wS 0 65 (pcs (valB l) r1 false) rfl)<|sP (.bool true) ?_
    refine sG<|Sy.ret ?_
    rw [show (.tuple #[ptv (liftP l),.bool (liftB l)]:Value)=.tuple #[pv (valB l) r1 false,.bool true] from by
     have hb:liftB l=true:=by unfold liftB; rw [← hz1, ← hk1, ← hb2]; rfl
     obtain ⟨u2,y2,e1,e2,e3,_,_⟩:=lift_yes hb
     rw [hb,e3]
     unfold ptv
     simp only
     rw [e1,e2, ← hz1, ← hr1]]
    exact Sy.ret2 (v:=pv (valB l) r1 false) (u:=.bool true) rfl (.inl (Res.cell (ty':=65) g1 1 (pcs (valB l) r1 false) _ kR kR Tryz.underlying65 rfl kR kR)) (.inl (show _=_ by kernel_rfl))
 ·have lb1:k1+1<32:=of_decide_eq_true hb1.symm
  refine sT<|Sy.skip<|Sy.then_<|Sy.seq<|Sy.block<|Sy.region ?_
  refine sP (.slice (some ⟨y1.1,0,none⟩) (k1+1) y1.2.1)<|sP (.int .i64 ((k1+1:Nat):Int))<|sS (.pointer (some ⟨g0,0+(k1+1)*1,none⟩)) (Quiet.pure (exec_atA 220 _ _ _ g0 0 _ (k1+1) 1 .i64 rfl rfl rfl Tryz.underlying220 kF (by omega)))<|sS (bv (l.getD (k1+1) 0)) (Quiet.cell 0 g0 (0+(k1+1)*1) 220 5 (l.map bv).toArray _ _ rfl kR kR Tryz.underlying5 rfl _ (key_sym hl (k:=k1+1) (by omega) (by omega))) ?_
  refine Sy.make kR 5 #[bv (l.getD (k1+1) 0)] (λg=>.slice (some ⟨g,0,none⟩) 1 1) kF (λg5=>?_)
  refine Sy.append kR 27 5 _ _ Tryz.underlying27 info_u8 rfl rfl rfl rfl _ _ rfl 2 y1.1 (k1+1) y1.2.1 ((l.take k1).map bv++([bv (l.getD k1 0)]++y1.2.2)).toArray ((l.take (k1+1)).map bv) kR kR (apd_take l k1 hl y1.2.2 (by omega)) (apd_len l k1 hl (by omega)) (apd_size l k1 hl y1.2.2 hh1.1 (by omega)) hh1.2 3 g5 0 1 1 5 #[bv (l.getD (k1+1) 0)] [bv (l.getD (k1+1) 0)] kR kR kR rfl (by intro u hu; simp only [List.mem_cons,List.not_mem_nil,or_false] at hu; subst hu; rfl) (by omega) (λq2 c2 s2 e2 m2=>?_)
  refine sP (.slice (some ⟨q2,0,none⟩) (k1+1+1) c2) ?_
  refine Sy.nil<|Sy.in_<|Sy.then_<|Sy.region ?_
  refine sP (.int .i64 ((k1+1:Nat):Int))<|sS (.int .i64 (((k1+1)+1:Nat):Int)) (Quiet.pure (exec_int .add _ _ _ .i64 _ _ _ rfl rfl rfl (int_add _ _ _ _ _ ((wrap_i64 (by omega) (by omega)).trans (by omega)))))<|sP (.int .i64 (((k1+1)+1:Nat):Int)) ?_
  refine Sy.nil ?_
  exact Sy.againX ((q2,c2,s2)) [true,true,true,false] (by omega) (⟨e2,m2⟩) (all_cons kR (all_cons kR (all_cons kR (all_cons kR all_nil)))) kR
end Cu
end
end Go.Proofs.YtnbenphcpenbeaaGreat
