/-
  Texts of ours, put together: WirCD, WirDF, WirDG, WirEA, WirEB, WirP, WirQ, WirR, WirS, WirT, WirU, WirV, WirW, WirBC, WirBD, WirCE, WirCF, CrvY, RefNumber, SymX, CrvE, CrvZ, WirDH, WirDI, WirEC, WirDJ, WirCG, WirDK, WirDL, WirED, WirFA, ScSpec, ScLow, ScBase, ScOps, ScEq, ScB32, WirGA, WirGB.
-/
import Derived.Test.YtdbcombmmnihbaaGreatWK4
set_option linter.unusedVariables false
set_option linter.unusedSimpArgs false
namespace Go.Proofs.YtdbcombmmnihbaaGreat
section
namespace Wr
open Go.RowKit Sy
set_option maxRecDepth 100000
set_option maxHeartbeats 4000000
theorem ones_bV (x:Byt):∀ u∈x.map bv,u.oneCell'=true:=λu hu=>by obtain ⟨y,_,rfl⟩:=List.mem_map.1 hu; rfl
theorem header_r:GetC 43 102 (Z32++([Value.int .u64 0]++([Value.int .u64 0]++(Z32++(Z32++([Value.slice none 0 0]++([Value.bool false]++([Value.int .i64 0]++[Value.slice none 0 0])))))))) repHE rdHE:=λw0 gc gr gx f tx A Z sl s R S hS hA he hl hv w hw=>by
 refine Sy.enterT (args:=[ptr gc,.pointer (some ⟨gx,f,none⟩)]) hw Tryz.func43 rfl kL ?_
 refine sC ?_
 refine sp rfl<|sp rfl<|sp rfl<|sP (.pointer (some ⟨gx,f,none⟩)) ?_
 refine Sy.callT (λw hw=>digest_r w0.inn gc gr gx f tx (A) ([Value.int .u64 0]++([Value.int .u64 0]++(Z32++(Z32++([Value.slice none 0 0]++([Value.bool false]++(([Value.int .i64 0]++[Value.slice none 0 0])++Z))))))) sl s (R) S hS hA he (hl) hv w (by simpa only [List.append_assoc] using hw)) (λu M hM=>?_)
 obtain ⟨x1,s1,sl1,cs1,N1,a1,n1,o1,⟨rfl,r1⟩,e1,h1,y1,rfl⟩:=hM
 have g1:s1.rest.length≤s.rest.length:=h1
 have A1:(A++(x1.map bv)).length=f+32:=by rw [List.length_append,hA,n1]
 refine sA ?_
 refine sp rfl<|sp rfl<|sp rfl<|sP (.pointer (some ⟨gx,f+32,none⟩)) ?_
 refine Sy.callT (λw hw=>long_r w0.inn gc gr gx (f+32) tx (A++(x1.map bv)) ([Value.int .u64 0]++(Z32++(Z32++([Value.slice none 0 0]++([Value.bool false]++(([Value.int .i64 0]++[Value.slice none 0 0])++Z)))))) sl1 s1 (R++N1) S (λb h=>List.mem_append_left _ (hS b h)) A1 e1 (Nat.le_trans g1 hl) y1 w (by have e:A++(x1.map bv)++([Value.int .u64 0]++([Value.int .u64 0]++(Z32++(Z32++([Value.slice none 0 0]++([Value.bool false]++(([Value.int .i64 0]++[Value.slice none 0 0])++Z)))))))=A++(x1.map bv++([Value.int .u64 0]++([Value.int .u64 0]++(Z32++(Z32++([Value.slice none 0 0]++([Value.bool false]++(([Value.int .i64 0]++[Value.slice none 0 0])++Z)))))))):=List.append_assoc ..; rw [e]; exact hw)) (λu M hM=>?_)
 obtain ⟨x2,s2,sl2,cs2,N2,a2,n2,o2,⟨rfl,r2⟩,e2,h2,y2,rfl⟩:=hM
 have g2:s2.rest.length≤s.rest.length:=Nat.le_trans h2 g1
 have A2:(A++(x1.map bv)++[Value.int .u64 (x2:Int)]).length=f+33:=by rw [List.length_append,A1,n2]
 refine sA ?_
 refine sp rfl<|sp rfl<|sp rfl<|sP (.pointer (some ⟨gx,f+33,none⟩)) ?_
 refine Sy.callT (λw hw=>long_r w0.inn gc gr gx (f+33) tx (A++(x1.map bv)++[Value.int .u64 (x2:Int)]) (Z32++(Z32++([Value.slice none 0 0]++([Value.bool false]++(([Value.int .i64 0]++[Value.slice none 0 0])++Z))))) sl2 s2 (R++N1++N2) S (λb h=>List.mem_append_left _ (List.mem_append_left _ (hS b h))) A2 e2 (Nat.le_trans g2 hl) y2 w (by have e:A++(x1.map bv)++[Value.int .u64 (x2:Int)]++([Value.int .u64 0]++(Z32++(Z32++([Value.slice none 0 0]++([Value.bool false]++(([Value.int .i64 0]++[Value.slice none 0 0])++Z))))))=A++(x1.map bv)++([Value.int .u64 (x2:Int)]++([Value.int .u64 0]++(Z32++(Z32++([Value.slice none 0 0]++([Value.bool false]++(([Value.int .i64 0]++[Value.slice none 0 0])++Z))))))):=List.append_assoc ..; rw [e]; exact hw)) (λu M hM=>?_)
 obtain ⟨x3,s3,sl3,cs3,N3,a3,n3,o3,⟨rfl,r3⟩,e3,h3,y3,rfl⟩:=hM
 have g3:s3.rest.length≤s.rest.length:=Nat.le_trans h3 g2
 have A3:(A++(x1.map bv)++[Value.int .u64 (x2:Int)]++[Value.int .u64 (x3:Int)]).length=f+34:=by rw [List.length_append,A2,n3]
 refine sA ?_
 refine sp rfl<|sp rfl<|sp rfl<|sP (.pointer (some ⟨gx,f+34,none⟩)) ?_
 refine Sy.callT (λw hw=>digest_r w0.inn gc gr gx (f+34) tx (A++(x1.map bv)++[Value.int .u64 (x2:Int)]++[Value.int .u64 (x3:Int)]) (Z32++([Value.slice none 0 0]++([Value.bool false]++(([Value.int .i64 0]++[Value.slice none 0 0])++Z)))) sl3 s3 (R++N1++N2++N3) S (λb h=>List.mem_append_left _ (List.mem_append_left _ (List.mem_append_left _ (hS b h)))) A3 e3 (Nat.le_trans g3 hl) y3 w (by have e:A++(x1.map bv)++[Value.int .u64 (x2:Int)]++[Value.int .u64 (x3:Int)]++(Z32++(Z32++([Value.slice none 0 0]++([Value.bool false]++(([Value.int .i64 0]++[Value.slice none 0 0])++Z)))))=A++(x1.map bv)++[Value.int .u64 (x2:Int)]++([Value.int .u64 (x3:Int)]++(Z32++(Z32++([Value.slice none 0 0]++([Value.bool false]++(([Value.int .i64 0]++[Value.slice none 0 0])++Z)))))):=List.append_assoc ..; rw [e]; exact hw)) (λu M hM=>?_)
 obtain ⟨x4,s4,sl4,cs4,N4,a4,n4,o4,⟨rfl,r4⟩,e4,h4,y4,rfl⟩:=hM
 have g4:s4.rest.length≤s.rest.length:=Nat.le_trans h4 g3
 have A4:(A++(x1.map bv)++[Value.int .u64 (x2:Int)]++[Value.int .u64 (x3:Int)]++(x4.map bv)).length=f+66:=by rw [List.length_append,A3,n4]
 refine sA ?_
 refine sp rfl<|sp rfl<|sp rfl<|sP (.pointer (some ⟨gx,f+66,none⟩)) ?_
 refine Sy.callT (λw hw=>digest_r w0.inn gc gr gx (f+66) tx (A++(x1.map bv)++[Value.int .u64 (x2:Int)]++[Value.int .u64 (x3:Int)]++(x4.map bv)) ([Value.slice none 0 0]++([Value.bool false]++(([Value.int .i64 0]++[Value.slice none 0 0])++Z))) sl4 s4 (R++N1++N2++N3++N4) S (λb h=>List.mem_append_left _ (List.mem_append_left _ (List.mem_append_left _ (List.mem_append_left _ (hS b h))))) A4 e4 (Nat.le_trans g4 hl) y4 w (by have e:A++(x1.map bv)++[Value.int .u64 (x2:Int)]++[Value.int .u64 (x3:Int)]++(x4.map bv)++(Z32++([Value.slice none 0 0]++([Value.bool false]++(([Value.int .i64 0]++[Value.slice none 0 0])++Z))))=A++(x1.map bv)++[Value.int .u64 (x2:Int)]++[Value.int .u64 (x3:Int)]++(x4.map bv++(Z32++([Value.slice none 0 0]++([Value.bool false]++(([Value.int .i64 0]++[Value.slice none 0 0])++Z))))):=List.append_assoc ..; rw [e]; exact hw)) (λu M hM=>?_)
 obtain ⟨x5,s5,sl5,cs5,N5,a5,n5,o5,⟨rfl,r5⟩,e5,h5,y5,rfl⟩:=hM
 have g5:s5.rest.length≤s.rest.length:=Nat.le_trans h5 g4
 have A5:(A++(x1.map bv)++[Value.int .u64 (x2:Int)]++[Value.int .u64 (x3:Int)]++(x4.map bv)++(x5.map bv)).length=f+98:=by rw [List.length_append,A4,n5]
 refine sA ?_
 refine sp rfl<|sp rfl<|sp rfl<|sP (.pointer (some ⟨gx,f+98,none⟩)) ?_
 refine Sy.callT (λw hw=>text_r 256 (by decide) w0.inn gc gr gx (f+98) tx (A++(x1.map bv)++[Value.int .u64 (x2:Int)]++[Value.int .u64 (x3:Int)]++(x4.map bv)++(x5.map bv)) ([Value.bool false]++(([Value.int .i64 0]++[Value.slice none 0 0])++Z)) sl5 s5 (R++N1++N2++N3++N4++N5) S (λb h=>List.mem_append_left _ (List.mem_append_left _ (List.mem_append_left _ (List.mem_append_left _ (List.mem_append_left _ (hS b h)))))) A5 e5 (Nat.le_trans g5 hl) y5 w (by have e:A++(x1.map bv)++[Value.int .u64 (x2:Int)]++[Value.int .u64 (x3:Int)]++(x4.map bv)++(x5.map bv)++([Value.slice none 0 0]++([Value.bool false]++(([Value.int .i64 0]++[Value.slice none 0 0])++Z)))=A++(x1.map bv)++[Value.int .u64 (x2:Int)]++[Value.int .u64 (x3:Int)]++(x4.map bv)++(x5.map bv++([Value.slice none 0 0]++([Value.bool false]++(([Value.int .i64 0]++[Value.slice none 0 0])++Z)))):=List.append_assoc ..; rw [e]; exact hw)) (λu M hM=>?_)
 obtain ⟨x6,s6,sl6,cs6,N6,a6,n6,o6,⟨v6,rfl,r6⟩,e6,h6,y6,rfl⟩:=hM
 have g6:s6.rest.length≤s.rest.length:=Nat.le_trans h6 g5
 have A6:(A++(x1.map bv)++[Value.int .u64 (x2:Int)]++[Value.int .u64 (x3:Int)]++(x4.map bv)++(x5.map bv)++[v6]).length=f+99:=by rw [List.length_append,A5,n6]
 refine sA ?_
 refine sp rfl<|sp rfl<|sp rfl<|sP (.pointer (some ⟨gx,f+99,none⟩)) ?_
 refine Sy.callT (λw hw=>truth_r w0.inn gc gr gx (f+99) tx (A++(x1.map bv)++[Value.int .u64 (x2:Int)]++[Value.int .u64 (x3:Int)]++(x4.map bv)++(x5.map bv)++[v6]) (([Value.int .i64 0]++[Value.slice none 0 0])++Z) sl6 s6 (R++N1++N2++N3++N4++N5++N6) S (λb h=>List.mem_append_left _ (List.mem_append_left _ (List.mem_append_left _ (List.mem_append_left _ (List.mem_append_left _ (List.mem_append_left _ (hS b h))))))) A6 e6 (Nat.le_trans g6 hl) y6 w (by have e:A++(x1.map bv)++[Value.int .u64 (x2:Int)]++[Value.int .u64 (x3:Int)]++(x4.map bv)++(x5.map bv)++[v6]++([Value.bool false]++(([Value.int .i64 0]++[Value.slice none 0 0])++Z))=A++(x1.map bv)++[Value.int .u64 (x2:Int)]++[Value.int .u64 (x3:Int)]++(x4.map bv)++(x5.map bv)++([v6]++([Value.bool false]++(([Value.int .i64 0]++[Value.slice none 0 0])++Z))):=List.append_assoc ..; rw [e]; exact hw)) (λu M hM=>?_)
 obtain ⟨x7,s7,sl7,cs7,N7,a7,n7,o7,rfl,e7,h7,y7,rfl⟩:=hM
 have g7:s7.rest.length≤s.rest.length:=Nat.le_trans h7 g6
 have A7:(A++(x1.map bv)++[Value.int .u64 (x2:Int)]++[Value.int .u64 (x3:Int)]++(x4.map bv)++(x5.map bv)++[v6]++[Value.bool x7]).length=f+100:=by rw [List.length_append,A6,n7]
 refine sA ?_
 refine sp rfl<|sp rfl<|sP (.pointer (some ⟨gx,f+99,none⟩))<|sS (.bool x7) (Quiet.cell 1 gx (f+99) tx 4 (A++(x1.map bv)++[Value.int .u64 (x2:Int)]++[Value.int .u64 (x3:Int)]++(x4.map bv)++(x5.map bv)++[v6]++([Value.bool x7]++(([Value.int .i64 0]++[Value.slice none 0 0])++Z))).toArray _ _ rfl kR rfl Tryz.underlying4 rfl _ (by rw [List.getElem?_toArray,List.getElem?_append_right (by omega),A6,show f+99 - (f+99)=0 by omega]; rfl)) ?_
 refine sG ?_
 cases x7
 case' true =>
  refine sT<|Sy.region ?_
  refine sp rfl<|sp rfl<|sp rfl<|sP (.pointer (some ⟨gx,f+100,none⟩)) ?_
  refine Sy.callT (λw hw=>params_r w0.inn gc gr gx (f+100) tx (A++(x1.map bv)++[Value.int .u64 (x2:Int)]++[Value.int .u64 (x3:Int)]++(x4.map bv)++(x5.map bv)++[v6]++[Value.bool true]) Z sl7 s7 (R++N1++N2++N3++N4++N5++N6++N7) S (λb h=>List.mem_append_left _ (List.mem_append_left _ (List.mem_append_left _ (List.mem_append_left _ (List.mem_append_left _ (List.mem_append_left _ (List.mem_append_left _ (hS b h)))))))) A7 e7 (Nat.le_trans g7 hl) y7 w (by have e:A++(x1.map bv)++[Value.int .u64 (x2:Int)]++[Value.int .u64 (x3:Int)]++(x4.map bv)++(x5.map bv)++[v6]++[Value.bool true]++(([Value.int .i64 0]++[Value.slice none 0 0])++Z)=A++(x1.map bv)++[Value.int .u64 (x2:Int)]++[Value.int .u64 (x3:Int)]++(x4.map bv)++(x5.map bv)++[v6]++([Value.bool true]++(([Value.int .i64 0]++[Value.slice none 0 0])++Z)):=List.append_assoc ..; rw [e]; exact hw)) (λu M hM=>?_)
  obtain ⟨⟨x8,ks⟩,s8,sl8,cs8,N8,a8,n8,o8,⟨v8,rfl,r8⟩,e8,h8,y8,rfl⟩:=hM
  refine Sy.nil ?_
  have hAf:After rdHE s ⟨x1,x2,x3,x4,x5,x6,true,⟨x8,ks⟩⟩ s8:=a1.bind (a2.bind (a3.bind (a4.bind (a5.bind (a6.bind (a7.bind (After.bind (by rw [if_pos rfl]; exact a8) (After.ret _ _))))))))
  have hLn:(x1.map bv++([Value.int .u64 (x2:Int)]++([Value.int .u64 (x3:Int)]++(x4.map bv++(x5.map bv++([v6]++([Value.bool true]++([Value.int .i64 x8]++[v8])))))))).length=102:=(by simp only [List.length_append,n1,n4,n5]; rfl)
  have hOn:∀ u∈(x1.map bv++([Value.int .u64 (x2:Int)]++([Value.int .u64 (x3:Int)]++(x4.map bv++(x5.map bv++([v6]++([Value.bool true]++([Value.int .i64 x8]++[v8])))))))),u.oneCell'=true:=ones_app o1 (ones_app o2 (ones_app o3 (ones_app o4 (ones_app o5 (ones_app o6 (ones_app o7 (onePA ⟨v8,rfl,r8⟩)))))))
  have hRp:repHE (rdB (N1++(N2++(N3++(N4++(N5++(N6++(N7++N8)))))))) (x1.map bv++([Value.int .u64 (x2:Int)]++([Value.int .u64 (x3:Int)]++(x4.map bv++(x5.map bv++([v6]++([Value.bool true]++([Value.int .i64 x8]++[v8])))))))) ⟨x1,x2,x3,x4,x5,x6,true,⟨x8,ks⟩⟩:=⟨v6,v8,rfl,r1,r4,r5,r2,r3,r6.le (rdB_le λb h=>by simp [h]),LstR.le (rep:=repDG) monoDG (rdB_le λb h=>by simp [h]) r8⟩
  exact Sy.retT0 rfl (CRS gc gr gx tx (A++((x1.map bv++([Value.int .u64 (x2:Int)]++([Value.int .u64 (x3:Int)]++(x4.map bv++(x5.map bv++([v6]++([Value.bool true]++([Value.int .i64 x8]++[v8]))))))))++Z)) sl8 s8.e (R++(N1++(N2++(N3++(N4++(N5++(N6++(N7++N8))))))))) (λ_ h=>by simpa only [List.append_assoc,List.cons_append,List.nil_append] using h) (λ_=>⟨_,s8,sl8,_,_,hAf,hLn,hOn,hRp,e8,Nat.le_trans h8 g7,y8,rfl⟩)
 refine sU<|Sy.region ?_
 refine sp rfl<|sp rfl<|sp rfl<|sP (.pointer (some ⟨gx,f+100,none⟩))<|sP (.pointer (some ⟨gx,f+100,none⟩))<|sS (.int .i64 0) (Quiet.cell 1 gx (f+100) tx 3 (A++(x1.map bv)++[Value.int .u64 (x2:Int)]++[Value.int .u64 (x3:Int)]++(x4.map bv)++(x5.map bv)++[v6]++([Value.bool false]++(([Value.int .i64 0]++[Value.slice none 0 0])++Z))).toArray _ _ rfl kR rfl Tryz.underlying3 rfl _ (by rw [List.getElem?_toArray,List.getElem?_append_right (by omega),A6,show f+100 - (f+99)=1 by omega]; rfl))<|sP (.bool true)<|sp rfl ?_
 refine sp rfl<|sp rfl<|sP (.pointer (some ⟨gx,f+100,none⟩))<|sP (.pointer (some ⟨gx,f+101,none⟩))<|sS (.slice none 0 0) (Quiet.cell 1 gx (f+101) tx 38 (A++(x1.map bv)++[Value.int .u64 (x2:Int)]++[Value.int .u64 (x3:Int)]++(x4.map bv)++(x5.map bv)++[v6]++([Value.bool false]++(([Value.int .i64 0]++[Value.slice none 0 0])++Z))).toArray _ _ rfl kR rfl Tryz.underlying38 rfl _ (by rw [List.getElem?_toArray,List.getElem?_append_right (by omega),A6,show f+101 - (f+99)=2 by omega]; rfl))<|sP (.int .i64 0)<|sP (.bool true)<|sP (.bool true) ?_
 refine Sy.permS (M:=CRN gc gr sl7 s7.e ((gx,tx,(A++(x1.map bv)++[Value.int .u64 (x2:Int)]++[Value.int .u64 (x3:Int)]++(x4.map bv)++(x5.map bv)++[v6]++([Value.bool false]++(([Value.int .i64 0]++[Value.slice none 0 0])++Z))).toArray)::(R++N1++N2++N3++N4++N5++N6++N7))) swap23 ?_
 refine Sy.callT (λw hw=>must_r w0.inn gc gr sl7 s7.e e7 ((gx,tx,(A++(x1.map bv)++[Value.int .u64 (x2:Int)]++[Value.int .u64 (x3:Int)]++(x4.map bv)++(x5.map bv)++[v6]++([Value.bool false]++(([Value.int .i64 0]++[Value.slice none 0 0])++Z))).toArray)::(R++N1++N2++N3++N4++N5++N6++N7)) true w hw) (λu M hM=>?_)
 subst hM
 rw [if_pos rfl]
 refine Sy.permS (M:=CRS gc gr gx tx (A++(x1.map bv)++[Value.int .u64 (x2:Int)]++[Value.int .u64 (x3:Int)]++(x4.map bv)++(x5.map bv)++[v6]++([Value.bool false]++(([Value.int .i64 0]++[Value.slice none 0 0])++Z))) sl7 s7.e (R++N1++N2++N3++N4++N5++N6++N7)) swap23 ?_
 refine Sy.nil ?_
 ·have hAf:After rdHE s ⟨x1,x2,x3,x4,x5,x6,false,⟨0,[]⟩⟩ s7:=a1.bind (a2.bind (a3.bind (a4.bind (a5.bind (a6.bind (a7.bind (After.bind (by rw [if_neg (by decide)]; exact After.ret _ _) (After.ret _ _))))))))
  have hLn:(x1.map bv++([Value.int .u64 (x2:Int)]++([Value.int .u64 (x3:Int)]++(x4.map bv++(x5.map bv++([v6]++([Value.bool false]++([Value.int .i64 0]++[Value.slice none 0 0])))))))).length=102:=(by simp only [List.length_append,n1,n4,n5]; rfl)
  have hOn:∀ u∈(x1.map bv++([Value.int .u64 (x2:Int)]++([Value.int .u64 (x3:Int)]++(x4.map bv++(x5.map bv++([v6]++([Value.bool false]++([Value.int .i64 0]++[Value.slice none 0 0])))))))),u.oneCell'=true:=ones_app o1 (ones_app o2 (ones_app o3 (ones_app o4 (ones_app o5 (ones_app o6 (ones_app o7 (onePA (C:=rdB []) (t:=⟨0,[]⟩) ⟨_,rfl,none,0,0,rfl,rfl,Nat.le_refl _,Nat.zero_le _,λh=>(h rfl).elim⟩)))))))
  have hRp:repHE (rdB (N1++(N2++(N3++(N4++(N5++(N6++N7))))))) (x1.map bv++([Value.int .u64 (x2:Int)]++([Value.int .u64 (x3:Int)]++(x4.map bv++(x5.map bv++([v6]++([Value.bool false]++([Value.int .i64 0]++[Value.slice none 0 0])))))))) ⟨x1,x2,x3,x4,x5,x6,false,⟨0,[]⟩⟩:=⟨v6,Value.slice none 0 0,rfl,r1,r4,r5,r2,r3,r6.le (rdB_le λb h=>by simp [h]),⟨none,0,0,rfl,rfl,Nat.le_refl _,Nat.zero_le _,λh=>(h rfl).elim⟩⟩
  exact Sy.retT0 rfl (CRS gc gr gx tx (A++((x1.map bv++([Value.int .u64 (x2:Int)]++([Value.int .u64 (x3:Int)]++(x4.map bv++(x5.map bv++([v6]++([Value.bool false]++([Value.int .i64 0]++[Value.slice none 0 0]))))))))++Z)) sl7 s7.e (R++(N1++(N2++(N3++(N4++(N5++(N6++N7)))))))) (λ_ h=>by simpa only [List.append_assoc,List.cons_append,List.nil_append] using h) (λ_=>⟨_,s7,sl7,_,_,hAf,hLn,hOn,hRp,e7,g7,y7,rfl⟩)
theorem oneHE {C:Rdr} {cs:List Value} {t:MHe} (h:repHE C cs t):∀ u∈cs,u.oneCell'=true:=by
 obtain ⟨vr,vk,rfl,_,_,_,_,_,h1,h2⟩:=h
 exact ones_app (ones_bV _) (ones_app (λu hu=>by rw [List.mem_singleton.1 hu]; rfl) (ones_app (λu hu=>by rw [List.mem_singleton.1 hu]; rfl) (ones_app (ones_bV _) (ones_app (ones_bV _) (ones_app (λu hu=>by rw [List.mem_singleton.1 hu]; exact h1.cells.2) (ones_app (λu hu=>by rw [List.mem_singleton.1 hu]; rfl) (ones_app (λu hu=>by rw [List.mem_singleton.1 hu]; rfl) (λu hu=>by rw [List.mem_singleton.1 hu]; exact h2.cells.2))))))))
end Wr
end
section
namespace Wr
open Go.RowKit Sy
set_option maxRecDepth 100000
set_option maxHeartbeats 4000000
theorem After.mustX {α:Type} (f:Unit→Ps α) (y:α) {s s':RS} (h:s'.e≠0):After (bindP (mustP false) f) s y s':=⟨λ_=>h,λz r _ hp=>(by cases hp),λ_ _=>h⟩
theorem After.mustY {α:Type} {f:Unit→Ps α} {b:Bool} {y:α} {s s':RS} (hb:b=true) (h:After (f ()) s y s'):After (bindP (mustP b) f) s y s':=by subst hb; exact h
theorem one_ni:∀ u∈[Value.slice none 0 0],u.oneCell'=true:=λu hu=>by rw [List.mem_singleton.1 hu]; rfl
theorem out_r:GetC 46 58 ([Value.int .i64 0]++(([Value.bool false]++(Z32++lPT ⟨0,0,false⟩))++(([Value.bool false]++([Value.int .u64 0]++lPT ⟨0,0,false⟩))++([Value.slice none 0 0]++([Value.slice none 0 0]++([Value.slice none 0 0]++([Value.slice none 0 0]))))))) repOU rdOU:=λw0 gc gr gx f tx A Z sl s R S hS hA he hl hv w hw=>by
 refine Sy.enterT (args:=[ptr gc,.pointer (some ⟨gx,f,none⟩)]) hw Tryz.func46 rfl kL ?_
 refine sC ?_
 refine sp rfl<|sp rfl<|sp rfl<|sP (.pointer (some ⟨gx,f,none⟩)) ?_
 refine Sy.callT (λw hw=>octet_r w0.inn gc gr gx f tx (A) (([Value.bool false]++(Z32++lPT ⟨0,0,false⟩))++(([Value.bool false]++([Value.int .u64 0]++lPT ⟨0,0,false⟩))++([Value.slice none 0 0]++([Value.slice none 0 0]++([Value.slice none 0 0]++([Value.slice none 0 0]++(Z))))))) sl s (R) S hS hA he (hl) hv w (by simpa only [List.append_assoc] using hw)) (λu M hM=>?_)
 obtain ⟨x1,s1,sl1,cs1,N1,a1,n1,o1,rfl,e1,h1,y1,rfl⟩:=hM
 have g1:s1.rest.length≤s.rest.length:=h1
 have A1:(A++[Value.int .i64 x1]).length=f+1:=by rw [List.length_append,hA,n1]
 refine sA ?_
 refine sp rfl<|sp rfl<|sP (.pointer (some ⟨gx,f,none⟩))<|sS (.int .i64 x1) (Quiet.cell 1 gx f tx 3 (A++([Value.int .i64 x1]++(([Value.bool false]++(Z32++lPT ⟨0,0,false⟩))++(([Value.bool false]++([Value.int .u64 0]++lPT ⟨0,0,false⟩))++([Value.slice none 0 0]++([Value.slice none 0 0]++([Value.slice none 0 0]++([Value.slice none 0 0]++(Z))))))))).toArray _ _ rfl kR rfl Tryz.underlying3 rfl _ (by rw [List.getElem?_toArray,List.getElem?_append_right (by omega),hA,Nat.sub_self]; rfl)) ?_
 refine sG<|Sy.block<|Sy.seq<|Sy.block ?_
 by_cases hk:x1=1∨x1=2∨x1=3∨x1=4
 ·obtain ⟨k1,k2⟩:=okK_yes hk
  refine Sy.seq ?_
  refine cutC [(0,ptr gc),(1,.pointer (some ⟨gx,f,none⟩))] (CRS gc gr gx tx (A++([Value.int .i64 x1]++(([Value.bool false]++(Z32++lPT ⟨0,0,false⟩))++(([Value.bool false]++([Value.int .u64 0]++lPT ⟨0,0,false⟩))++([Value.slice none 0 0]++([Value.slice none 0 0]++([Value.slice none 0 0]++([Value.slice none 0 0]++(Z))))))))) sl1 s1.e (R++N1)) ?_ ?_
  ·clear a1 n1 o1 A1 k1 k2
   rcases hk with rfl | rfl | rfl | rfl
   ·refine Sy.block<|Sy.block<|Sy.block<|Sy.block<|Sy.seq<|Sy.seq<|sC ?_
    refine sP (.bool true)<|sp rfl ?_
    refine sG<|sT<|Sy.exit<|Sy.then_exit<|Sy.then_exit<|Sy.in_exit<|Sy.in_<|Sy.in_<|Sy.in_ ?_
    exact meet (all_cons kR (all_cons kR all_nil)) (λ_ h=>h)
   ·refine Sy.block<|Sy.block<|Sy.block<|Sy.block<|Sy.seq<|Sy.seq<|sC ?_
    refine sP (.bool false)<|sp rfl ?_
    refine sG<|sU<|Sy.skip<|Sy.then_<|Sy.seq<|sC ?_
    refine sP (.bool true)<|sp rfl ?_
    refine sG<|sT<|Sy.exit<|Sy.then_exit<|Sy.then_exit ?_
    refine Sy.in_pass (by decide) ?_
    refine Sy.in_exit<|Sy.in_<|Sy.in_ ?_
    exact meet (all_cons kR (all_cons kR all_nil)) (λ_ h=>h)
   ·refine Sy.block<|Sy.block<|Sy.block<|Sy.block<|Sy.seq<|Sy.seq<|sC ?_
    refine sP (.bool false)<|sp rfl ?_
    refine sG<|sU<|Sy.skip<|Sy.then_<|Sy.seq<|sC ?_
    refine sP (.bool false)<|sp rfl ?_
    refine sG<|sU<|Sy.skip<|Sy.then_<|Sy.seq<|sC ?_
    refine sP (.bool true)<|sp rfl ?_
    refine sG<|sT<|Sy.exit<|Sy.then_exit<|Sy.then_exit ?_
    refine Sy.in_pass (by decide) ?_
    refine Sy.in_pass (by decide) ?_
    refine Sy.in_exit<|Sy.in_ ?_
    exact meet (all_cons kR (all_cons kR all_nil)) (λ_ h=>h)
   ·refine Sy.block<|Sy.block<|Sy.block<|Sy.block<|Sy.seq<|Sy.seq<|sC ?_
    refine sP (.bool false)<|sp rfl ?_
    refine sG<|sU<|Sy.skip<|Sy.then_<|Sy.seq<|sC ?_
    refine sP (.bool false)<|sp rfl ?_
    refine sG<|sU<|Sy.skip<|Sy.then_<|Sy.seq<|sC ?_
    refine sP (.bool false)<|sp rfl ?_
    refine sG<|sU<|Sy.skip<|Sy.then_<|sC ?_
    refine sP (.bool true)<|sp rfl ?_
    refine sG<|sT<|Sy.exit<|Sy.then_exit ?_
    refine Sy.in_pass (by decide) ?_
    refine Sy.in_pass (by decide) ?_
    refine Sy.in_pass (by decide) ?_
    refine Sy.in_exit ?_
    exact meet (all_cons kR (all_cons kR all_nil)) (λ_ h=>h)
  refine Sy.then_<|Sy.seq<|sC ?_
  refine sp rfl<|sp rfl<|sp rfl<|sP (.pointer (some ⟨gx,f+1,none⟩)) ?_
  refine Sy.callT (λw hw=>tag_r w0.inn gc gr gx (f+1) tx (A++[Value.int .i64 x1]) (([Value.bool false]++([Value.int .u64 0]++lPT ⟨0,0,false⟩))++([Value.slice none 0 0]++([Value.slice none 0 0]++([Value.slice none 0 0]++([Value.slice none 0 0]++(Z)))))) sl1 s1 (R++N1) S (λb h=>List.mem_append_left _ (hS b h)) A1 e1 (Nat.le_trans g1 hl) y1 w (by have e:A++[Value.int .i64 x1]++(([Value.bool false]++(Z32++lPT ⟨0,0,false⟩))++(([Value.bool false]++([Value.int .u64 0]++lPT ⟨0,0,false⟩))++([Value.slice none 0 0]++([Value.slice none 0 0]++([Value.slice none 0 0]++([Value.slice none 0 0]++(Z)))))))=A++([Value.int .i64 x1]++(([Value.bool false]++(Z32++lPT ⟨0,0,false⟩))++(([Value.bool false]++([Value.int .u64 0]++lPT ⟨0,0,false⟩))++([Value.slice none 0 0]++([Value.slice none 0 0]++([Value.slice none 0 0]++([Value.slice none 0 0]++(Z)))))))):=List.append_assoc ..; rw [e]; exact hw)) (λu M hM=>?_)
  obtain ⟨x2,s2,sl2,cs2,N2,a2,n2,o2,⟨rfl,r2⟩,e2,h2,y2,rfl⟩:=hM
  have g2:s2.rest.length≤s.rest.length:=Nat.le_trans h2 g1
  have A2:(A++[Value.int .i64 x1]++(cTG x2)).length=f+43:=by rw [List.length_append,A1,n2]
  refine sA ?_
  refine sp rfl<|sp rfl<|sp rfl<|sP (.pointer (some ⟨gx,f+43,none⟩)) ?_
  refine Sy.callT (λw hw=>amount_r w0.inn gc gr gx (f+43) tx (A++[Value.int .i64 x1]++(cTG x2)) ([Value.slice none 0 0]++([Value.slice none 0 0]++([Value.slice none 0 0]++([Value.slice none 0 0]++(Z))))) sl2 s2 (R++N1++N2) S (λb h=>List.mem_append_left _ (List.mem_append_left _ (hS b h))) A2 e2 (Nat.le_trans g2 hl) y2 w (by have e:A++[Value.int .i64 x1]++(cTG x2)++(([Value.bool false]++([Value.int .u64 0]++lPT ⟨0,0,false⟩))++([Value.slice none 0 0]++([Value.slice none 0 0]++([Value.slice none 0 0]++([Value.slice none 0 0]++(Z))))))=A++[Value.int .i64 x1]++(cTG x2++(([Value.bool false]++([Value.int .u64 0]++lPT ⟨0,0,false⟩))++([Value.slice none 0 0]++([Value.slice none 0 0]++([Value.slice none 0 0]++([Value.slice none 0 0]++(Z))))))):=List.append_assoc ..; rw [e]; exact hw)) (λu M hM=>?_)
  obtain ⟨x3,s3,sl3,cs3,N3,a3,n3,o3,⟨rfl,r3⟩,e3,h3,y3,rfl⟩:=hM
  have g3:s3.rest.length≤s.rest.length:=Nat.le_trans h3 g2
  have A3:(A++[Value.int .i64 x1]++(cTG x2)++(cAM x3)).length=f+54:=by rw [List.length_append,A2,n3]
  refine sA ?_
  refine sp rfl<|sp rfl<|sp rfl<|sP (.pointer (some ⟨gx,f+54,none⟩)) ?_
  refine Sy.callT (λw hw=>text_r 6000 (by decide) w0.inn gc gr gx (f+54) tx (A++[Value.int .i64 x1]++(cTG x2)++(cAM x3)) ([Value.slice none 0 0]++([Value.slice none 0 0]++([Value.slice none 0 0]++(Z)))) sl3 s3 (R++N1++N2++N3) S (λb h=>List.mem_append_left _ (List.mem_append_left _ (List.mem_append_left _ (hS b h)))) A3 e3 (Nat.le_trans g3 hl) y3 w (by have e:A++[Value.int .i64 x1]++(cTG x2)++(cAM x3)++([Value.slice none 0 0]++([Value.slice none 0 0]++([Value.slice none 0 0]++([Value.slice none 0 0]++(Z)))))=A++[Value.int .i64 x1]++(cTG x2)++(cAM x3++([Value.slice none 0 0]++([Value.slice none 0 0]++([Value.slice none 0 0]++([Value.slice none 0 0]++(Z)))))):=List.append_assoc ..; rw [e]; exact hw)) (λu M hM=>?_)
  obtain ⟨x4,s4,sl4,cs4,N4,a4,n4,o4,⟨v4,rfl,r4⟩,e4,h4,y4,rfl⟩:=hM
  have g4:s4.rest.length≤s.rest.length:=Nat.le_trans h4 g3
  have A4:(A++[Value.int .i64 x1]++(cTG x2)++(cAM x3)++[v4]).length=f+55:=by rw [List.length_append,A3,n4]
  refine sA ?_
  refine sp rfl<|sp rfl<|sp rfl<|sP (.pointer (some ⟨gx,f+55,none⟩)) ?_
  refine Sy.callT (λw hw=>text_r 6000 (by decide) w0.inn gc gr gx (f+55) tx (A++[Value.int .i64 x1]++(cTG x2)++(cAM x3)++[v4]) ([Value.slice none 0 0]++([Value.slice none 0 0]++(Z))) sl4 s4 (R++N1++N2++N3++N4) S (λb h=>List.mem_append_left _ (List.mem_append_left _ (List.mem_append_left _ (List.mem_append_left _ (hS b h))))) A4 e4 (Nat.le_trans g4 hl) y4 w (by have e:A++[Value.int .i64 x1]++(cTG x2)++(cAM x3)++[v4]++([Value.slice none 0 0]++([Value.slice none 0 0]++([Value.slice none 0 0]++(Z))))=A++[Value.int .i64 x1]++(cTG x2)++(cAM x3)++([v4]++([Value.slice none 0 0]++([Value.slice none 0 0]++([Value.slice none 0 0]++(Z))))):=List.append_assoc ..; rw [e]; exact hw)) (λu M hM=>?_)
  obtain ⟨x5,s5,sl5,cs5,N5,a5,n5,o5,⟨v5,rfl,r5⟩,e5,h5,y5,rfl⟩:=hM
  have g5:s5.rest.length≤s.rest.length:=Nat.le_trans h5 g4
  have A5:(A++[Value.int .i64 x1]++(cTG x2)++(cAM x3)++[v4]++[v5]).length=f+56:=by rw [List.length_append,A4,n5]
  refine sA ?_
  refine sp rfl<|sp rfl<|sp rfl<|sP (.pointer (some ⟨gx,f+56,none⟩)) ?_
  refine Sy.callT (λw hw=>text_r 128 (by decide) w0.inn gc gr gx (f+56) tx (A++[Value.int .i64 x1]++(cTG x2)++(cAM x3)++[v4]++[v5]) ([Value.slice none 0 0]++(Z)) sl5 s5 (R++N1++N2++N3++N4++N5) S (λb h=>List.mem_append_left _ (List.mem_append_left _ (List.mem_append_left _ (List.mem_append_left _ (List.mem_append_left _ (hS b h)))))) A5 e5 (Nat.le_trans g5 hl) y5 w (by have e:A++[Value.int .i64 x1]++(cTG x2)++(cAM x3)++[v4]++[v5]++([Value.slice none 0 0]++([Value.slice none 0 0]++(Z)))=A++[Value.int .i64 x1]++(cTG x2)++(cAM x3)++[v4]++([v5]++([Value.slice none 0 0]++([Value.slice none 0 0]++(Z)))):=List.append_assoc ..; rw [e]; exact hw)) (λu M hM=>?_)
  obtain ⟨x6,s6,sl6,cs6,N6,a6,n6,o6,⟨v6,rfl,r6⟩,e6,h6,y6,rfl⟩:=hM
  have g6:s6.rest.length≤s.rest.length:=Nat.le_trans h6 g5
  have A6:(A++[Value.int .i64 x1]++(cTG x2)++(cAM x3)++[v4]++[v5]++[v6]).length=f+57:=by rw [List.length_append,A5,n6]
  refine Sy.nil<|Sy.then_<|Sy.region ?_
  refine sp rfl<|sp rfl<|sp rfl<|sP (.pointer (some ⟨gx,f+57,none⟩)) ?_
  refine Sy.callT (λw hw=>text_r 256 (by decide) w0.inn gc gr gx (f+57) tx (A++[Value.int .i64 x1]++(cTG x2)++(cAM x3)++[v4]++[v5]++[v6]) (Z) sl6 s6 (R++N1++N2++N3++N4++N5++N6) S (λb h=>List.mem_append_left _ (List.mem_append_left _ (List.mem_append_left _ (List.mem_append_left _ (List.mem_append_left _ (List.mem_append_left _ (hS b h))))))) A6 e6 (Nat.le_trans g6 hl) y6 w (by have e:A++[Value.int .i64 x1]++(cTG x2)++(cAM x3)++[v4]++[v5]++[v6]++([Value.slice none 0 0]++(Z))=A++[Value.int .i64 x1]++(cTG x2)++(cAM x3)++[v4]++[v5]++([v6]++([Value.slice none 0 0]++(Z))):=List.append_assoc ..; rw [e]; exact hw)) (λu M hM=>?_)
  obtain ⟨x7,s7,sl7,cs7,N7,a7,n7,o7,⟨v7,rfl,r7⟩,e7,h7,y7,rfl⟩:=hM
  have g7:s7.rest.length≤s.rest.length:=Nat.le_trans h7 g6
  have A7:(A++[Value.int .i64 x1]++(cTG x2)++(cAM x3)++[v4]++[v5]++[v6]++[v7]).length=f+58:=by rw [List.length_append,A6,n7]
  refine Sy.nil<|Sy.then_<|Sy.exit ?_
  refine Sy.in_pass (by decide) ?_
  refine Sy.then_exit<|Sy.in_exit ?_
  have hAf:After rdOU s ⟨x1,x2,x3,x4,x5,x6,x7⟩ s7:=a1.bind (After.mustY k1 (a2.bind (a3.bind (a4.bind (a5.bind (a6.bind (a7.bind (After.ret _ _))))))))
  have hLn:([Value.int .i64 x1]++(cTG x2++(cAM x3++([v4]++([v5]++([v6]++([v7]))))))).length=58:=by simp only [List.length_append,n2,n3]; rfl
  have hOn:∀ u∈([Value.int .i64 x1]++(cTG x2++(cAM x3++([v4]++([v5]++([v6]++([v7]))))))),u.oneCell'=true:=ones_app o1 (ones_app o2 (ones_app o3 (ones_app o4 (ones_app o5 (ones_app o6 o7)))))
  have hRp:repOU (rdB (N1++(N2++(N3++(N4++(N5++(N6++N7))))))) ([Value.int .i64 x1]++(cTG x2++(cAM x3++([v4]++([v5]++([v6]++([v7]))))))) ⟨x1,x2,x3,x4,x5,x6,x7⟩:=⟨v4,v5,v6,v7,rfl,r2,r3,r4.le (rdB_le λb h=>by simp [h]),r5.le (rdB_le λb h=>by simp [h]),r6.le (rdB_le λb h=>by simp [h]),r7.le (rdB_le λb h=>by simp [h])⟩
  exact Sy.retT0 rfl (CRS gc gr gx tx (A++(([Value.int .i64 x1]++(cTG x2++(cAM x3++([v4]++([v5]++([v6]++([v7])))))))++Z)) sl7 s7.e (R++(N1++(N2++(N3++(N4++(N5++(N6++N7)))))))) (λ_ h=>by simpa only [List.append_assoc,List.cons_append,List.nil_append] using h) (λ_=>⟨_,s7,sl7,_,_,hAf,hLn,hOn,hRp,e7,g7,y7,rfl⟩)
 refine Sy.seq<|Sy.block<|Sy.block<|Sy.block<|Sy.block<|Sy.seq<|Sy.seq<|sC ?_
 refine sS (.bool false) (Quiet.pure (exec_int .eql _ _ _ .i64 _ _ _ rfl rfl rfl (int_eql _ _ _ _ _ (decide_eq_false (λe=>hk (by simp [e]))))))<|sp rfl ?_
 refine sG<|sU<|Sy.skip<|Sy.then_<|Sy.seq<|sC ?_
 refine sS (.bool false) (Quiet.pure (exec_int .eql _ _ _ .i64 _ _ _ rfl rfl rfl (int_eql _ _ _ _ _ (decide_eq_false (λe=>hk (by simp [e]))))))<|sp rfl ?_
 refine sG<|sU<|Sy.skip<|Sy.then_<|Sy.seq<|sC ?_
 refine sS (.bool false) (Quiet.pure (exec_int .eql _ _ _ .i64 _ _ _ rfl rfl rfl (int_eql _ _ _ _ _ (decide_eq_false (λe=>hk (by simp [e]))))))<|sp rfl ?_
 refine sG<|sU<|Sy.skip<|Sy.then_<|sC ?_
 refine sS (.bool false) (Quiet.pure (exec_int .eql _ _ _ .i64 _ _ _ rfl rfl rfl (int_eql _ _ _ _ _ (decide_eq_false (λe=>hk (by simp [e]))))))<|sp rfl ?_
 refine sG<|sU<|Sy.skip<|Sy.then_<|Sy.exit ?_
 refine Sy.in_pass (by decide) ?_
 refine Sy.in_pass (by decide) ?_
 refine Sy.in_pass (by decide) ?_
 refine Sy.in_pass (by decide) ?_
 refine Sy.then_exit<|Sy.in_exit<|sB ?_
 refine sp rfl ?_
 have p5:(CRS gc gr gx tx (A++([Value.int .i64 x1]++(([Value.bool false]++(Z32++lPT ⟨0,0,false⟩))++(([Value.bool false]++([Value.int .u64 0]++lPT ⟨0,0,false⟩))++([Value.slice none 0 0]++([Value.slice none 0 0]++([Value.slice none 0 0]++([Value.slice none 0 0]++(Z))))))))) sl1 s1.e (R++N1)).Perm (CRN gc gr sl1 s1.e ((gx,tx,(A++([Value.int .i64 x1]++(([Value.bool false]++(Z32++lPT ⟨0,0,false⟩))++(([Value.bool false]++([Value.int .u64 0]++lPT ⟨0,0,false⟩))++([Value.slice none 0 0]++([Value.slice none 0 0]++([Value.slice none 0 0]++([Value.slice none 0 0]++(Z))))))))).toArray)::(R++N1))):=swap23
 refine Sy.permS p5 ?_
 refine Sy.callT (λw hw=>must_r w0.inn gc gr sl1 s1.e e1 ((gx,tx,(A++([Value.int .i64 x1]++(([Value.bool false]++(Z32++lPT ⟨0,0,false⟩))++(([Value.bool false]++([Value.int .u64 0]++lPT ⟨0,0,false⟩))++([Value.slice none 0 0]++([Value.slice none 0 0]++([Value.slice none 0 0]++([Value.slice none 0 0]++(Z))))))))).toArray)::(R++N1)) false w hw) (λu M hM=>?_)
 subst hM
 obtain ⟨e2,he2⟩:∃ e2,e2=if false=true then s1.e else if s1.e=0 then 120 else s1.e:=⟨_,rfl⟩
 rw [← he2]
 rw [if_neg (by decide)] at he2
 have he3:e2≠0:=by rw [he2]; split <;> omega
 have he4:e2≤200:=by rw [he2]; split <;> omega
 refine sG<|Sy.exit<|Sy.in_exit ?_
 have p6:(CRN gc gr sl1 e2 ((gx,tx,(A++([Value.int .i64 x1]++(([Value.bool false]++(Z32++lPT ⟨0,0,false⟩))++(([Value.bool false]++([Value.int .u64 0]++lPT ⟨0,0,false⟩))++([Value.slice none 0 0]++([Value.slice none 0 0]++([Value.slice none 0 0]++([Value.slice none 0 0]++(Z))))))))).toArray)::(R++N1))).Perm (CRS gc gr gx tx (A++([Value.int .i64 x1]++(([Value.bool false]++(Z32++lPT ⟨0,0,false⟩))++(([Value.bool false]++([Value.int .u64 0]++lPT ⟨0,0,false⟩))++([Value.slice none 0 0]++([Value.slice none 0 0]++([Value.slice none 0 0]++([Value.slice none 0 0]++(Z))))))))) sl1 e2 (R++N1)):=swap23
 have hno:okK x1=false:=okK_of hk
 have hAf:After rdOU s ⟨x1,⟨false,z32,⟨0,0,false⟩⟩,⟨false,0,⟨0,0,false⟩⟩,[],[],[],[]⟩ ⟨s1.rest,e2⟩:=a1.bind (by rw [hno]; exact After.mustX _ _ he3)
 have hLn:([Value.int .i64 x1]++(([Value.bool false]++(Z32++lPT ⟨0,0,false⟩))++(([Value.bool false]++([Value.int .u64 0]++lPT ⟨0,0,false⟩))++([Value.slice none 0 0]++([Value.slice none 0 0]++([Value.slice none 0 0]++([Value.slice none 0 0]))))))).length=58:=rfl
 have hOn:∀ u∈([Value.int .i64 x1]++(([Value.bool false]++(Z32++lPT ⟨0,0,false⟩))++(([Value.bool false]++([Value.int .u64 0]++lPT ⟨0,0,false⟩))++([Value.slice none 0 0]++([Value.slice none 0 0]++([Value.slice none 0 0]++([Value.slice none 0 0]))))))),u.oneCell'=true:=ones_app o1 (ones_app (ones_app (λu hu=>by rw [List.mem_singleton.1 hu]; rfl) (ones_app (ones_bW z32) (lPT_one _))) (ones_app (ones_app (λu hu=>by rw [List.mem_singleton.1 hu]; rfl) (ones_app (λu hu=>by rw [List.mem_singleton.1 hu]; rfl) (lPT_one _))) (ones_app one_ni (ones_app one_ni (ones_app one_ni one_ni)))))
 have hRp:repOU (rdB N1) ([Value.int .i64 x1]++(([Value.bool false]++(Z32++lPT ⟨0,0,false⟩))++(([Value.bool false]++([Value.int .u64 0]++lPT ⟨0,0,false⟩))++([Value.slice none 0 0]++([Value.slice none 0 0]++([Value.slice none 0 0]++([Value.slice none 0 0]))))))) ⟨x1,⟨false,z32,⟨0,0,false⟩⟩,⟨false,0,⟨0,0,false⟩⟩,[],[],[],[]⟩:=⟨.slice none 0 0,.slice none 0 0,.slice none 0 0,.slice none 0 0,rfl,⟨rfl,(show 0<Cu.K4 by decide),(show 0<Cu.K4 by decide)⟩,⟨(show (0:Nat)<18446744073709551616 by decide),(show 0<Cu.K4 by decide),(show 0<Cu.K4 by decide)⟩,BytR.nil _,BytR.nil _,BytR.nil _,BytR.nil _⟩
 have hcs:A++(([Value.int .i64 x1]++(([Value.bool false]++(Z32++lPT ⟨0,0,false⟩))++(([Value.bool false]++([Value.int .u64 0]++lPT ⟨0,0,false⟩))++([Value.slice none 0 0]++([Value.slice none 0 0]++([Value.slice none 0 0]++([Value.slice none 0 0])))))))++Z)=A++([Value.int .i64 x1]++(([Value.bool false]++(Z32++lPT ⟨0,0,false⟩))++(([Value.bool false]++([Value.int .u64 0]++lPT ⟨0,0,false⟩))++([Value.slice none 0 0]++([Value.slice none 0 0]++([Value.slice none 0 0]++([Value.slice none 0 0]++(Z)))))))):=by simp only [List.append_assoc]
 exact Sy.retT0 rfl (CRS gc gr gx tx (A++(([Value.int .i64 x1]++(([Value.bool false]++(Z32++lPT ⟨0,0,false⟩))++(([Value.bool false]++([Value.int .u64 0]++lPT ⟨0,0,false⟩))++([Value.slice none 0 0]++([Value.slice none 0 0]++([Value.slice none 0 0]++([Value.slice none 0 0])))))))++Z)) sl1 e2 (R++N1)) (λ_ h=>by rw [hcs]; exact h.perm p6) (λ_=>⟨_,⟨s1.rest,e2⟩,sl1,_,N1,hAf,hLn,hOn,hRp,he4,h1,y1,rfl⟩)
end Wr
end
section
namespace Wr
open Go.RowKit Sy
set_option maxRecDepth 100000
set_option maxHeartbeats 4000000
end Wr
end
section
namespace Wr
open Go.RowKit Sy
set_option maxRecDepth 100000
set_option maxHeartbeats 4000000
section
variable {α:Type} {rep:Rdr→List Value→α→Prop} {ok:α→Bool} {enc:α→Byt} {wt:α→Nat}
theorem el_w_ous (hm:Mono rep) (hp:PutO 46 58 rep ok enc wt) (w0:Base) (gc gw g4 g7:Nat) (bad:Bool) (s:Slc) (R:Blocks) (b:Byt) (u:Value) (cs:List Value) (x:α) (h4:(g4,85,#[ptr gc])∈R) (h7:(g7,115,#[.func (.func 46) #[] #[]])∈R) (hx:rep (rdC w0 R) cs x) (hl:cs.length=58) (hb:BS s b) (hlen:b.length+wt x≤70368744170000) (w:World) (hw:St w0 w (CWS gc gw bad s R)) :
  Calls Tryz.prog 114 #[u,.agg cs.toArray,ptr g7,ptr g4] w (Turns w0 (WrC gc gw R (ok x) (enc x) (wt x) bad b)):=by
 refine Sy.enterT (args:=[u,.agg cs.toArray,ptr g7,ptr g4]) hw Tryz.func114 rfl kL ?_
 refine sC ?_
 refine sM 63 cs.toArray (λg5=>?_) kR (λw=>run_boxR rfl rfl (by kernel_rfl) hl w)
 refine Sy.permS (List.Perm.of_eq eqCW) ?_
 refine Sy.nil<|Sy.then_<|Sy.region ?_
 refine sS (.func (.func 46) #[] #[]) (cellC (R:=R++[(g5,63,cs.toArray)]) (mem1 (inA h7)) inCW rfl Tryz.underlying115)<|sS (ptr gc) (cellC (R:=R++[(g5,63,cs.toArray)]) (mem1 (inA h4)) inCW rfl Tryz.underlying85) ?_
 refine Sy.callT (λw hw=>hp w0.inn gc gw g5 0 bad s (R++[(g5,63,cs.toArray)]) b cs x (hm (rdC_le (λ_ h=>inA h)) hx) hl (ownX lastR) hb hlen w hw) (λv M hM=>?_)
 obtain ⟨s1,bad1,b1,h1,h2,rfl⟩:=hM
 refine Sy.nil ?_
 exact Sy.retT0 rfl (CWS gc gw bad1 s1 R) (λ_ h=>dropR h) (λ_=>⟨s1,bad1,b1,h1,h2,rfl⟩)
end
section
variable {α:Type} {rep:Rdr→List Value→α→Prop} {ok:α→Bool} {enc:α→Byt} {wt:α→Nat}
theorem put_w_ous (hm:Mono rep) (hp:PutO 46 58 rep ok enc wt) (w0:Base) (gc gw g4 g7:Nat) (bad:Bool) (s:Slc) (R:Blocks) (b:Byt) (v:Value) (l:List α) (h4:(g4,85,#[ptr gc])∈R) (h7:(g7,115,#[.func (.func 46) #[] #[]])∈R) (hv:LstR (rdC w0 R) 58 rep v l) (hb:BS s b) (hlen:b.length+(9+(l.map wt).sum)≤70368744170000) (w:World) (hw:St w0 w (CWS gc gw bad s R)) :
  Calls Tryz.prog 113 #[ptr gw,v,.func (.func 114) #[] #[ptr g7,ptr g4]] w (Turns w0 (WrC gc gw R (l.all ok) (varB l.length++l.flatMap enc) (9+(l.map wt).sum) bad b)):=by
 obtain ⟨A,n,cp,rfl,h2,h3,h4',h5⟩:=hv
 have hmx:n<9223372036854775808:=by simp only [maxLen] at h4'; omega
 refine Sy.enterT (args:=[ptr gw,.slice A n cp,.func (.func 114) #[] #[ptr g7,ptr g4]]) hw Tryz.func113 rfl kL ?_
 refine sC ?_
 refine sp rfl<|sp rfl<|sP (.int .i64 (n:Int))<|sS (.int .u64 (n:Int)) (Quiet.pure (λw=>conv_i6 w _ _ _ n (by omega) rfl rfl)) ?_
 refine Sy.callT (λw hw=>var_any w0.inn gw s ((gc,134,#[ptr gw,.pointer none,.bool bad])::R) b n (by omega) hb (by omega) w (hw.perm permCW)) (λu M hM=>?_)
 obtain ⟨s1,hs1,rfl⟩:=hM
 have hn9:=varB_len n
 refine Sy.permS permCW.symm ?_
 refine Sy.nil<|sB ?_
 refine sp rfl<|sP (.int .i64 (n:Int))<|sP (.int .i64 0) ?_
 refine sG<|Sy.block ?_
 have hw0:Wrote true (varB n) 9 bad b bad (b++varB n):=Wrote.raw _ _ _ hn9
 have hsum:∀ i,((l.take i).map wt).sum≤(l.map wt).sum:=λi=>by
  have e:=congrArg (λz=>(z.map wt).sum) (List.take_append_drop i l)
  simp only [List.map_append,List.sum_append] at e
  omega
 refine Sy.loopT (Y:=Slc×Bool×Byt) n (λi y=>[(0,ptr gw),(2,.func (.func 114) #[] #[ptr g7,ptr g4]),(13,.slice A n cp),(14,.int .i64 (n:Int)),(15,.int .i64 (i:Int))]) (λi y=>CWS gc gw y.2.1 y.1 R) (λi y=>Wrote ((l.take i).all ok) (varB n++(l.take i).flatMap enc) (9+((l.take i).map wt).sum) bad b y.2.1 y.2.2∧BS y.1 y.2.2) (s1,bad,b++varB n) ⟨by
  have e:Wrote ((l.take 0).all ok) (varB n++(l.take 0).flatMap enc) (9+((l.take 0).map wt).sum) bad b bad (b++varB n):=by
   rw [List.take_zero]
   simpa using hw0
  exact e,hs1⟩ (all_cons kR (all_cons kR (all_cons kR (all_cons kR (all_cons kR all_nil))))) (λ_ h=>h) (λi y hi hy=>?_)
 obtain ⟨sy,bady,by_⟩:=y
 obtain ⟨hy,hsy⟩:=hy
 dsimp only at hy hsy ⊢
 refine sC ?_
 obtain ⟨b2,hb2⟩:∃ z:Bool,z=decide (i<n):=⟨_,rfl⟩
 refine sS (.bool b2) (Quiet.pure (exec_int .lss _ _ _ .i64 _ _ _ rfl rfl rfl (int_lss _ _ _ _ _ (by rw [hb2]; exact decide_eq_decide.2 (by omega))))) ?_
 refine sG<|Sy.seq ?_
 cases b2
 case' false =>
  have l2:¬ i<n:=of_decide_eq_false hb2.symm
  obtain rfl:i=n:=by omega
  rw [List.take_of_length_le (by omega)] at hy
  refine sU<|Sy.exit<|Sy.then_exit<|Sy.then_exit<|Sy.in_exit ?_
  rw [h2]
  exact Sy.retT0 rfl (CWS gc gw bady sy R) (λ_ h=>h) (λ_=>⟨sy,bady,by_,hy,hsy,rfl⟩)
 have l2:i<n:=of_decide_eq_true hb2.symm
 obtain ⟨x,hx⟩:∃ x,l[i]? = some x:=⟨_,List.getElem?_eq_getElem (by omega)⟩
 obtain ⟨g,o,rfl,hq⟩:=h5 (by intro e; rw [e] at hx; cases hx)
 obtain ⟨cs,c1,c2,c3,c4⟩:=hq i x hx
 have htk:l.take (i+1)=l.take i++[x]:=by rw [List.take_add_one,hx]; rfl
 have hsi:=hsum (i+1)
 rw [htk] at hsi
 simp only [List.map_append,List.sum_append,List.map_cons,List.map_nil,List.sum_cons,List.sum_nil] at hsi
 refine sT<|Sy.skip<|Sy.then_<|Sy.seq<|Sy.block<|sC ?_
 refine sS (.pointer (some ⟨g,o+i*58,none⟩)) (Quiet.pure (exec_atO 24 _ _ _ (some ⟨g,o,none⟩) g o n cp i 58 .i64 rfl rfl rfl rfl Tryz.underlying24 kF l2))<|sS (.agg cs.toArray) (rowC (R:=R) c4 inCW c1 rfl Tryz.underlying63) ?_
 refine sM 63 ([Value.int .i64 0]++(([Value.bool false]++(Z32++lPT ⟨0,0,false⟩))++(([Value.bool false]++([Value.int .u64 0]++lPT ⟨0,0,false⟩))++([Value.slice none 0 0]++([Value.slice none 0 0]++([Value.slice none 0 0]++([Value.slice none 0 0]))))))).toArray (λg9=>?_)
 refine Sy.permS (List.Perm.of_eq eqCW) ?_
 refine Sy.permS (List.perm_append_comm (l₁:=CWS gc gw bady sy R) (l₂:=[(g9,63,([Value.int .i64 0]++(([Value.bool false]++(Z32++lPT ⟨0,0,false⟩))++(([Value.bool false]++([Value.int .u64 0]++lPT ⟨0,0,false⟩))++([Value.slice none 0 0]++([Value.slice none 0 0]++([Value.slice none 0 0]++([Value.slice none 0 0]))))))).toArray)]) |> λh=>(List.Perm.of_eq eqCW.symm).trans h) ?_
 refine sw 0 rfl cs.toArray (Writes.row 63 cs 58 _ _ rfl kR kR kR c1 (by kernel_rfl) c2) ?_
 refine Sy.permS ((List.perm_append_comm (l₁:=[(g9,63,cs.toArray)]) (l₂:=CWS gc gw bady sy R)).trans (List.Perm.of_eq eqCW)) ?_
 refine Sy.nil<|Sy.then_<|Sy.region ?_
 refine sp rfl<|sp rfl<|sS (.agg cs.toArray) (rowC (R:=R++[(g9,63,cs.toArray)]) (memX lastR) inCW c1 rfl Tryz.underlying63) ?_
 refine Sy.callT (λw hw=>el_w_ous (rep:=rep) (ok:=ok) (enc:=enc) (wt:=wt) hm hp w0.inn gc gw g4 g7 bady sy (R++[(g9,63,cs.toArray)]) by_ (ptr gw) cs x (inA h4) (inA h7) (hm (rdC_le (λ_ h=>inA h)) c3) c1 hsy (by have hyl:=hy.len; omega) w hw) (λv M hM=>?_)
 obtain ⟨s3,bad3,b3,q1,q2,rfl⟩:=hM
 refine Sy.nil<|Sy.in_<|Sy.then_<|Sy.region ?_
 refine sS (.int .i64 ((i+1:Nat):Int)) (Quiet.pure (exec_int .add _ _ _ .i64 _ _ _ rfl rfl rfl (int_add _ _ _ _ _ ((wrap_i64 (by omega) (by omega)).trans (by omega)))))<|sp rfl ?_
 refine Sy.nil ?_
 have hW:=hy.then_ q1
 have hW':Wrote ((l.take (i+1)).all ok) (varB n++(l.take (i+1)).flatMap enc) (9+((l.take (i+1)).map wt).sum) bad b bad3 b3:=by
  rw [htk]
  simp only [List.all_append,List.flatMap_append,List.map_append,List.sum_append,List.all_cons,List.all_nil,List.flatMap_cons,List.flatMap_nil,List.map_cons,List.map_nil,List.sum_cons,List.sum_nil,Bool.and_true,List.append_nil,Nat.add_zero, ← List.append_assoc, ← Nat.add_assoc]
  simpa only [List.append_assoc,Nat.add_assoc] using hW
 exact Sy.againT (s3,bad3,b3) l2 ⟨hW',q2⟩ (all_cons kR (all_cons kR (all_cons kR (all_cons kR (all_cons kR all_nil))))) (λw h=>dropR h)
theorem list_w_ous (hm:Mono rep) (hp:PutO 46 58 rep ok enc wt) (w0:Base) (gc gw gx f most:Nat) (hmo:most<1000000) (bad:Bool) (s:Slc) (R:Blocks) (b:Byt) (v:Value) (l:List α) (hv:LstR (rdC w0 R) 58 rep v l) (hc:rdC w0 R gx f v) (hb:BS s b) (hlen:b.length+(9+(l.map wt).sum)≤70368744170000) (w:World) (hw:St w0 w (CWS gc gw bad s R)) :
  Calls Tryz.prog 62 #[ptr gc,.pointer (some ⟨gx,f,none⟩),.int .i64 (most:Int),.func (.func 46) #[] #[]] w (Turns w0 (WrC gc gw R (decide (l.length≤most) && l.all ok) (varB l.length++l.flatMap enc) (9+(l.map wt).sum) bad b)):=by
 have hv0:=hv
 obtain ⟨A,n,cp,rfl,h2,h3,h4',h5⟩:=hv
 refine Sy.enterT (args:=[ptr gc,.pointer (some ⟨gx,f,none⟩),.int .i64 (most:Int),.func (.func 46) #[] #[]]) hw Tryz.func62 rfl kL ?_
 refine sC ?_
 refine sM 85 #[ptr gc] (λg4=>?_)
 refine Sy.permS (List.Perm.of_eq eqCW) ?_
 refine sM 115 #[.func (.func 46) #[] #[]] (λg7=>?_)
 refine Sy.permS (List.Perm.of_eq eqCW) ?_
 obtain ⟨R1,hR1⟩:∃ R1,R1=R++[(g4,85,#[ptr gc])]++[(g7,115,#[.func (.func 46) #[] #[]])]:=⟨_,rfl⟩
 rw [← hR1]
 have m4:(g4,85,#[ptr gc])∈R1:=by rw [hR1]; exact inA lastR
 have m7:(g7,115,#[.func (.func 46) #[] #[]])∈R1:=by rw [hR1]; exact lastR
 have mR:∀ x∈R,x∈R1:=λx hx=>by rw [hR1]; exact inA (inA hx)
 have hv1:LstR (rdC w0 R1) 58 rep (.slice A n cp) l:=LstR.le (rep:=rep) hm (rdC_le mR) hv0
 have hc1:rdC w0 R1 gx f (.slice A n cp):=rdC_le mR _ _ _ hc
 have back:∀ {w:World} {bad':Bool} {s':Slc},St w0 w (CWS gc gw bad' s' R1)→St w0 w (CWS gc gw bad' s' R):=λh=>by
  rw [hR1,List.append_assoc] at h
  exact dropR h
 refine sG<|Sy.seq<|sC ?_
 refine sS (ptr gc) (cellC (R:=R1) (mem1 m4) inCW rfl Tryz.underlying85)<|sS (.bool false) (qg (λw hw=>reads_w w0.inn gc _ _ (List.mem_cons_self ..) w hw)) ?_
 refine sG<|sU<|Sy.skip ?_
 obtain ⟨b1,hb1⟩:∃ z:Bool,z=decide (n≤most):=⟨_,rfl⟩
 refine sR (λj=>j == 7) ?_
 refine sD 0 rfl (ptr gc) (cellC (R:=R1) (mem1 m4) inCW rfl Tryz.underlying85)<|sa 1 rfl rfl<|sa 2 rfl rfl<|se 3 [4,6,7] rfl (.slice A n cp) (cellC (R:=R1) hc1 inCW rfl Tryz.underlying24)<|sb 4 rfl (.int .i64 (n:Int))<|sa 5 rfl rfl ?_
 refine sv 6 rfl (.bool b1) (exec_int .leq _ _ _ .i64 _ _ _ rfl rfl rfl (int_leq _ _ _ _ _ (by rw [hb1]; exact decide_eq_decide.2 (by omega)))) ?_
 refine Sy.soleD 7 rfl (λQ2 hq2=>?_)
 refine Sy.callT (λw hw=>must_w w0.inn gc gw bad b1 s R1 w hw) (λu M hM=>?_)
 subst hM
 refine hq2 _ _ ?_
 refine sE ?_
 obtain ⟨bad1,hbad1⟩:∃ x,x=(bad || !b1):=⟨_,rfl⟩
 rw [← hbad1]
 refine sB ?_
 refine sS (ptr gc) (cellC (R:=R1) (mem1 m4) inCW rfl Tryz.underlying85)<|sp rfl<|sP (.pointer (some ⟨gc,2,none⟩))<|sS (.bool bad1) (qc 0 2 rfl rfl Tryz.underlying4)<|sP (.bool (!bad1)) ?_
 refine sG ?_
 cases bad1
 ·have hb1t:bad=false∧b1=true:=by cases bad <;> cases b1 <;> first | exact ⟨rfl,rfl⟩ | cases hbad1
  obtain ⟨rfl,rfl⟩:=hb1t
  have e1:decide (l.length≤most)=true:=by rw [h2, ← hb1]
  rw [e1,Bool.true_and]
  refine sT ?_
  refine Sy.regionD (λj=>j == 8) kR ?_
  refine se 0 [1,2,3,8] rfl (ptr gc) (cellC (R:=R1) (mem1 m4) inCW rfl Tryz.underlying85)<|sa 1 rfl rfl<|sb 2 rfl (.pointer (some ⟨gc,0,none⟩))<|sD 3 rfl (ptr gw) (qc 0 0 rfl rfl Tryz.underlying130)<|sa 4 rfl rfl<|sa 5 rfl rfl<|sD 6 rfl (.slice A n cp) (cellC (R:=R1) hc1 inCW rfl Tryz.underlying24)<|sb 7 rfl (.func (.func 114) #[] #[ptr g7,ptr g4]) ?_
  refine Sy.soleD 8 rfl (λQ2 hq2=>?_)
  refine Sy.callT (λw hw=>put_w_ous (rep:=rep) hm hp w0.inn gc gw g4 g7 false s R1 b (.slice A n cp) l m4 m7 hv1 hb hlen w hw) (λu M hM=>?_)
  obtain ⟨s1,bad2,b2,q1,q2,rfl⟩:=hM
  refine hq2 _ _ ?_
  refine sE ?_
  exact Sy.retT0 rfl (CWS gc gw bad2 s1 R) (λ_ h=>back h) (λ_=>⟨s1,bad2,b2,q1,q2,rfl⟩)
 ·refine sU<|Sy.skip ?_
  have e1:true=(bad || !(decide (l.length≤most) && l.all ok)):=by
   rw [h2, ← hb1]
   cases bad
   ·cases b1
    ·rfl
    ·cases hbad1
   ·rfl
  exact Sy.retT0 rfl (CWS gc gw true s R) (λ_ h=>back h) (λ_=>⟨s,true,b,⟨e1,λh=>(by cases h),by omega⟩,hb,rfl⟩)
end
section
variable {α:Type} {rep:Rdr→List Value→α→Prop} {p:Ps α}
theorem el_r_ous (hm:Mono rep) (hp:GetC 46 58 (([Value.int .i64 0]++(([Value.bool false]++(Z32++lPT ⟨0,0,false⟩))++(([Value.bool false]++([Value.int .u64 0]++lPT ⟨0,0,false⟩))++([Value.slice none 0 0]++([Value.slice none 0 0]++([Value.slice none 0 0]++([Value.slice none 0 0])))))))) rep p) (w0:Base) (gc gr g4 g7:Nat) (sl:Value) (s:RS) (R S:Blocks) (hS:∀ b∈S,b∈R) (h4:(g4,85,#[ptr gc])∈R) (h7:(g7,115,#[.func (.func 46) #[] #[]])∈R) (he:s.e≤200) (hl:s.rest.length≤70368744177664) (hv:BytR (rdC w0 S) sl s.rest) (u:Value) (w:World) (hw:St w0 w (CRN gc gr sl s.e R)) :
  Calls Tryz.prog 112 #[u,ptr g7,ptr g4] w (Turns w0 (RdV 58 rep p w0 gc gr s R S)):=by
 refine Sy.enterT (args:=[u,ptr g7,ptr g4]) hw Tryz.func112 rfl kL ?_
 refine sC ?_
 refine sM 63 (([Value.int .i64 0]++(([Value.bool false]++(Z32++lPT ⟨0,0,false⟩))++(([Value.bool false]++([Value.int .u64 0]++lPT ⟨0,0,false⟩))++([Value.slice none 0 0]++([Value.slice none 0 0]++([Value.slice none 0 0]++([Value.slice none 0 0])))))))).toArray (λga=>?_)
 refine sA ?_
 refine sM 63 (([Value.int .i64 0]++(([Value.bool false]++(Z32++lPT ⟨0,0,false⟩))++(([Value.bool false]++([Value.int .u64 0]++lPT ⟨0,0,false⟩))++([Value.slice none 0 0]++([Value.slice none 0 0]++([Value.slice none 0 0]++([Value.slice none 0 0])))))))).toArray (λgb=>?_)
 refine Sy.permS (M:=CRS gc gr gb 63 ([]++((([Value.int .i64 0]++(([Value.bool false]++(Z32++lPT ⟨0,0,false⟩))++(([Value.bool false]++([Value.int .u64 0]++lPT ⟨0,0,false⟩))++([Value.slice none 0 0]++([Value.slice none 0 0]++([Value.slice none 0 0]++([Value.slice none 0 0]))))))))++[])) sl s.e ((ga,63,(([Value.int .i64 0]++(([Value.bool false]++(Z32++lPT ⟨0,0,false⟩))++(([Value.bool false]++([Value.int .u64 0]++lPT ⟨0,0,false⟩))++([Value.slice none 0 0]++([Value.slice none 0 0]++([Value.slice none 0 0]++([Value.slice none 0 0])))))))).toArray)::R)) permEl ?_
 refine sA ?_
 refine sS (.func (.func 46) #[] #[]) (cellC (R:=(ga,63,(([Value.int .i64 0]++(([Value.bool false]++(Z32++lPT ⟨0,0,false⟩))++(([Value.bool false]++([Value.int .u64 0]++lPT ⟨0,0,false⟩))++([Value.slice none 0 0]++([Value.slice none 0 0]++([Value.slice none 0 0]++([Value.slice none 0 0])))))))).toArray)::R) (mem1 (List.mem_cons_of_mem _ h7)) inCR rfl Tryz.underlying115)<|sS (ptr gc) (cellC (R:=(ga,63,(([Value.int .i64 0]++(([Value.bool false]++(Z32++lPT ⟨0,0,false⟩))++(([Value.bool false]++([Value.int .u64 0]++lPT ⟨0,0,false⟩))++([Value.slice none 0 0]++([Value.slice none 0 0]++([Value.slice none 0 0]++([Value.slice none 0 0])))))))).toArray)::R) (mem1 (List.mem_cons_of_mem _ h4)) inCR rfl Tryz.underlying85) ?_
 refine Sy.callT (λw hw=>hp w0.inn gc gr gb 0 63 [] [] sl s ((ga,63,(([Value.int .i64 0]++(([Value.bool false]++(Z32++lPT ⟨0,0,false⟩))++(([Value.bool false]++([Value.int .u64 0]++lPT ⟨0,0,false⟩))++([Value.slice none 0 0]++([Value.slice none 0 0]++([Value.slice none 0 0]++([Value.slice none 0 0])))))))).toArray)::R) S (λb h=>List.mem_cons_of_mem _ (hS b h)) rfl he hl hv w hw) (λv M hM=>?_)
 obtain ⟨x,s',sl',cs,N,q1,q2,q3,q4,q5,q6,q7,rfl⟩:=hM
 rw [List.append_nil]
 refine sA ?_
 refine sS (.agg cs.toArray) (Quiet.mid 1 gb 0 58 63 63 cs cs _ _ rfl kR rfl Tryz.underlying63 rfl kR (by rw [List.drop_zero,List.take_of_length_le (by omega)]) (by omega))<|sw 3 rfl cs.toArray (Writes.row 63 cs 58 _ _ rfl kR kR kR q2 (by kernel_rfl) q3) ?_
 refine sG<|Sy.ret ?_
 exact Sy.retT1 (CRN gc gr sl' s'.e (R++N)) rfl (.inl (Sy.Res.cell (ty':=63) ga 3 cs.toArray _ (by kernel_rfl) rfl Tryz.underlying63 rfl (by rw [List.size_toArray,q2]; kernel_rfl) rfl)) (λw h=>h.less (((List.Sublist.refl _).cons _ |>.cons_cons _).cons _ |>.cons_cons _)) ⟨x,s',sl',cs,N,q1,q2,q3,q4,rfl,q5,q6,q7,rfl⟩
theorem items_r_ous (w:World) (gr most g4 g7:Nat):Calls Tryz.prog 174 #[ptr gr,.int .i64 (most:Int),.func (.func 112) #[] #[ptr g7,ptr g4]] w (GetsN w (λv M=>∃ a b c,v=.func (.func 212) #[] #[ptr a,ptr b,ptr c]∧M=[(a,132,#[ptr gr]),(b,3,#[.int .i64 (most:Int)]),(c,241,#[.func (.func 112) #[] #[ptr g7,ptr g4]])])):=by
 refine Sy.enter (args:=[ptr gr,.int .i64 (most:Int),.func (.func 112) #[] #[ptr g7,ptr g4]]) Tryz.func174 rfl kL ?_
 refine sC ?_
 refine sM 132 #[ptr gr] (λa=>?_)
 refine sM 3 #[.int .i64 (most:Int)] (λb=>?_)
 refine sM 241 #[.func (.func 112) #[] #[ptr g7,ptr g4]] (λc=>?_)
 refine sP .nilFunc ?_
 refine sA ?_
 refine sP (.func (.func 212) #[] #[ptr a,ptr b,ptr c])<|sp rfl ?_
 refine sG<|Sy.ret ?_
 exact Sy.retGM _ rfl (.inl (show _=_ by kernel_rfl)) (λ_ h=>h) ⟨a,b,c,rfl,rfl⟩
noncomputable def inf_ous:TypeInfo:=(Tryz.prog.info? 63).getD default
theorem info_ous:Tryz.prog.info? 63=some inf_ous:=by kernel_rfl
def HYL_ous (p:Ps α) (rep:Rdr→List Value→α→Prop) (w0:Base) (S:Blocks) (m:Nat) (s1:RS) (v:Nat×List Value) (y:YL α):Prop:=∃ x,y.x=some x∧y.l.length=v.1∧RowsOk 63 58 rep y.r y.N y.l∧rep (rdB y.N) v.2 x∧v.2.length=58∧(∀ u∈v.2,u.oneCell'=true)∧v.1<1000000
def HRL_ous (rep:Rdr→List Value→α→Prop) (y y':YL α):Prop:=∃ x r',y.x=some x∧RowsOk 63 58 rep r' y.N (y.l++[x])∧y'={ y with l:=y.l++[x],r:=r',x:=none }
theorem iter_r_ous (hm:Mono rep) (hp:GetC 46 58 (([Value.int .i64 0]++(([Value.bool false]++(Z32++lPT ⟨0,0,false⟩))++(([Value.bool false]++([Value.int .u64 0]++lPT ⟨0,0,false⟩))++([Value.slice none 0 0]++([Value.slice none 0 0]++([Value.slice none 0 0]++([Value.slice none 0 0])))))))) rep p) (w0:Base) (fz:World) (gc gr gl g4 g7 a b c most:Nat) (hmost:most<1000000) (R S:Blocks) (s0:RS) (sl0:Value) (hS:∀ x∈S,x∈R) (h4:(g4,85,#[ptr gc])∈R) (h7:(g7,115,#[.func (.func 46) #[] #[]])∈R) (ha:(a,132,#[ptr gr])∈R) (hb:(b,3,#[.int .i64 (most:Int)])∈R) (hc:(c,241,#[.func (.func 112) #[] #[ptr g7,ptr g4]])∈R) (he:s0.e≤200) (hl:s0.rest.length≤70368744177664) (hv:BytR (rdC w0 S) sl0 s0.rest) (lp:Nat) (w:World) (hw:St (ib w0.world fz) w (LBL gc gr gl 24 nilS s0.e sl0 R []))
  (hY:∀ (v:Nat×List Value) (y:YL α) (W:World),(HYL_ous p rep w0 S 0 s0 v y)→St (ib w0.world fz) W (LBL gc gr gl 24 y.r y.s.e y.sl R y.N)→YieldAt Fence.wide 7 Tryz.prog lp #[.int .i64 (v.1:Int),.agg v.2.toArray] W (RoundT w0.world fz (HRL_ous rep y) (λy=>LBL gc gr gl 24 y.r y.s.e y.sl R y.N))) :
  CallsIn Fence.wide 8 Tryz.prog 212 #[.func (.yield lp) #[] #[],ptr a,ptr b,ptr c] w (DoneT w0.world fz (λy:YL α=>∃ m s1,After (varP most) s0 m s1∧s1.rest.length≤s0.rest.length∧y.l.length≤most∧InvL 63 58 rep p w0 S m s1 y.l.length y∧(y.s.e=0→y.l.length=m)) (λy=>LBL gc gr gl 24 y.r y.s.e y.sl R y.N)):=by
 refine Sy.enterI (args:=[.func (.yield lp) #[] #[],ptr a,ptr b,ptr c]) hw Tryz.func212 rfl kL ?_
 refine sC ?_
 refine sS (ptr gr) (cellC (R:=R) (mem1 ha) lbl_in rfl Tryz.underlying132)<|sS (.int .i64 (most:Int)) (cellC (R:=R) (mem1 hb) lbl_in rfl Tryz.underlying3) ?_
 refine Sy.callT (λw hw=>count_any (ib w0.world fz) gr sl0 s0 ((gc,134,#[.pointer none,ptr gr,.bool false])::(gl,24,#[.slice none 0 0])::(R++[])) S (λx h=>List.mem_cons_of_mem _ (List.mem_cons_of_mem _ (List.mem_append_left _ (hS x h)))) most hmost he hv w (hw.perm swap12)) (λu M hM=>?_)
 obtain ⟨m,s1,sl1,hA1,⟨rfl,hm1⟩,hs1e,hs1r,hs1b,rfl⟩:=hM
 refine Sy.permS (M:=LBL gc gr gl 24 nilS s1.e sl1 R []) swap12.symm ?_
 refine sp rfl ?_
 refine sA ?_
 refine sP (.int .i64 0) ?_
 refine sG<|Sy.block ?_
 refine Sy.loopT (Y:=YL α) m (λi y=>[(0,.func (.yield lp) #[] #[]),(1,ptr a),(2,ptr b),(3,ptr c),(5,.int .i64 (m:Int)),(6,.int .i64 (i:Int))]) (λi y=>LBL gc gr gl 24 y.r y.s.e y.sl R y.N) (λi y=>InvL 63 58 rep p w0 S m s1 i y) ⟨[],nilS,s1,sl1,[],none⟩ ⟨rfl,RowsOk.nil,λh=>⟨h,rfl⟩,λh=>.inl h,hs1e,Nat.le_refl _,hs1b⟩ (all_cons kR (all_cons kR (all_cons kR (all_cons kR (all_cons kR (all_cons kR all_nil)))))) (λ_ h=>h) (λi y hi hy=>?_)
 obtain ⟨l,r,s,sl,N,xo⟩:=y
 have hylen:l.length=i:=hy.len
 refine Sy.seq<|sC ?_
 obtain ⟨b1,hb1⟩:∃ z:Bool,z=decide (i<m):=⟨_,rfl⟩
 refine sp rfl<|sp rfl<|sS (.bool b1) (Quiet.pure (exec_int .lss _ _ _ .i64 _ _ _ rfl rfl rfl (int_lss _ _ _ _ _ (by rw [hb1]; exact decide_eq_decide.2 (by omega)))))<|sp rfl ?_
 cases b1
 case' false =>
  have l1:¬ i<m:=of_decide_eq_false hb1.symm
  obtain rfl:i=m:=by omega
  refine sN<|sN<|sN<|sP (.bool false) ?_
  refine sG<|sU<|Sy.exit<|Sy.then_exit<|Sy.then_exit<|Sy.in_exit ?_
  exact Sy.retI rfl (λv w h=>⟨⟨_,rfl⟩,⟨l,r,s,sl,N,xo⟩,⟨i,s1,hA1,hs1r,by show l.length≤most; omega,by rw [show (⟨l,r,s,sl,N,xo⟩:YL α).l.length=i from hylen]; exact hy,λ_=>hylen⟩,h⟩) (.inr rfl)
 have l1:i<m:=of_decide_eq_true hb1.symm
 obtain ⟨b2,hb2⟩:∃ z:Bool,z=decide (s.e=0):=⟨_,rfl⟩
 have hse:s.e≤200:=hy.e
 refine sS (ptr gr) (cellC (R:=R) (mem1 ha) lbl_in rfl Tryz.underlying132)<|sS (.int .i64 (s.e:Int)) (qg (λw hw=>err_any (ib w0.world fz) gr sl s.e [] (List.mem_cons_of_mem _ (List.mem_cons_self ..)) w hw))<|sS (.bool b2) (Quiet.pure (exec_int .eql _ _ _ .i64 _ _ _ rfl rfl rfl (int_eql _ _ _ _ _ (by rw [hb2]; exact decide_eq_decide.2 (by omega)))))<|sP (.bool b2) ?_
 refine sG ?_
 cases b2
 case' false =>
  have l2:s.e≠0:=of_decide_eq_false hb2.symm
  refine sU<|Sy.exit<|Sy.then_exit<|Sy.then_exit<|Sy.in_exit ?_
  exact Sy.retI rfl (λv w h=>⟨⟨_,rfl⟩,⟨l,r,s,sl,N,xo⟩,⟨m,s1,hA1,hs1r,by show l.length≤most; omega,by rw [show (⟨l,r,s,sl,N,xo⟩:YL α).l.length=i from hylen]; exact hy,λh=>(l2 h).elim⟩,h⟩) (.inr rfl)
 have l2:s.e=0:=of_decide_eq_true hb2.symm
 obtain ⟨hs10,hrep⟩:=hy.yes l2
 refine sT<|Sy.skip<|Sy.then_<|Sy.seq<|Sy.block<|sC ?_
 refine sS (.func (.func 112) #[] #[ptr g7,ptr g4]) (cellC (R:=R) (mem1 hc) lbl_in rfl Tryz.underlying241)<|sS (ptr gr) (cellC (R:=R) (mem1 ha) lbl_in rfl Tryz.underlying132) ?_
 refine Sy.callT (λw hw=>el_r_ous (rep:=rep) (p:=p) hm hp (ib w0.world fz) gc gr g4 g7 sl s ((gl,24,#[r.v])::(r.bl++(R++N))) S (λx h=>List.mem_cons_of_mem _ (List.mem_append_right _ (List.mem_append_left _ (hS x h)))) (List.mem_cons_of_mem _ (List.mem_append_right _ (List.mem_append_left _ h4))) (List.mem_cons_of_mem _ (List.mem_append_right _ (List.mem_append_left _ h7))) hse (Nat.le_trans (Nat.le_trans hy.rest hs1r) hl) hy.byt (ptr gr) w hw) (λu M hM=>?_)
 obtain ⟨x,s',sl',cs,N1,q1,q2,q3,q4,rfl,q5,q6,q7,rfl⟩:=hM
 obtain ⟨st1,st2⟩:=rep_step hrep l2 q1
 refine sM 63 (([Value.int .i64 0]++(([Value.bool false]++(Z32++lPT ⟨0,0,false⟩))++(([Value.bool false]++([Value.int .u64 0]++lPT ⟨0,0,false⟩))++([Value.slice none 0 0]++([Value.slice none 0 0]++([Value.slice none 0 0]++([Value.slice none 0 0])))))))).toArray (λgb=>?_)
 refine Sy.permS (M:=(gb,63,(([Value.int .i64 0]++(([Value.bool false]++(Z32++lPT ⟨0,0,false⟩))++(([Value.bool false]++([Value.int .u64 0]++lPT ⟨0,0,false⟩))++([Value.slice none 0 0]++([Value.slice none 0 0]++([Value.slice none 0 0]++([Value.slice none 0 0])))))))).toArray)::LBL gc gr gl 24 r s'.e sl' R (N++N1)) ((List.perm_append_comm (l₂:=[(gb,63,(([Value.int .i64 0]++(([Value.bool false]++(Z32++lPT ⟨0,0,false⟩))++(([Value.bool false]++([Value.int .u64 0]++lPT ⟨0,0,false⟩))++([Value.slice none 0 0]++([Value.slice none 0 0]++([Value.slice none 0 0]++([Value.slice none 0 0])))))))).toArray)])).trans (List.Perm.cons _ (List.Perm.of_eq (by simp only [List.cons_append,List.append_assoc,List.nil_append]; rfl)))) ?_
 refine sw 0 rfl cs.toArray (Writes.row 63 cs 58 _ _ rfl kR kR kR q2 (by kernel_rfl) q3) ?_
 refine Sy.nil<|Sy.then_ ?_
 have hR2:RowsOk 63 58 rep r (N++N1) l:=RowsOk.more (rep:=rep) hm hy.rows (λb h=>List.mem_append_left _ h)
 have hx2:rep (rdB (N++N1)) cs x:=hm (rdB_le λb h=>List.mem_append_right _ h) q4
 have drop1:∀ {w:World},St (ib w0.world fz) w ((gb,63,cs.toArray)::LBL gc gr gl 24 r s'.e sl' R (N++N1))→St (ib w0.world fz) w (LBL gc gr gl 24 r s'.e sl' R (N++N1)):=λh=>h.less (List.sublist_cons_self _ _)
 obtain ⟨b3,hb3⟩:∃ z:Bool,z=decide (s'.e≠0):=⟨_,rfl⟩
 have inl:∀ b∈R,b∈(gb,63,cs.toArray)::LBL gc gr gl 24 r s'.e sl' R (N++N1):=λb h=>List.mem_cons_of_mem _ (lbl_in b h)
 refine Sy.seq ?_
 cases b3
 case' true =>
  have l3:s'.e≠0:=of_decide_eq_true hb3.symm
  refine Sy.region ?_
  refine sS (ptr gr) (cellC (R:=R) (mem1 ha) inl rfl Tryz.underlying132)<|sS (.int .i64 (s'.e:Int)) (qg (λw hw=>err_any (ib w0.world fz) gr sl' s'.e [] (List.mem_cons_of_mem _ (List.mem_cons_of_mem _ (List.mem_cons_self ..))) w hw))<|sS (.bool true) (Quiet.pure (exec_int .neq _ _ _ .i64 _ _ _ rfl rfl rfl (int_neq _ _ _ _ _ (by rw [hb3]; exact decide_eq_decide.2 (by omega)))))<|sp rfl<|sN<|sN<|sN<|sN<|sN<|sP (.bool true) ?_
  refine sG<|sT<|Sy.ret<|Sy.in_ret<|Sy.then_ret<|Sy.then_ret<|Sy.in_ret ?_
  exact Sy.retI rfl (λv w h=>⟨⟨_,rfl⟩,⟨l,r,s',sl',N++N1,none⟩,⟨m,s1,hA1,hs1r,by show l.length≤most; omega,⟨rfl,hR2,λh=>(l3 h).elim,λ_=>.inr (st2 l3 m l1),q5,Nat.le_trans q6 hy.rest,q7⟩,λh=>(l3 h).elim⟩,drop1 h⟩) (.inl rfl)
 have l3:s'.e=0:=Decidable.of_not_not (of_decide_eq_false hb3.symm)
 refine Sy.regionI 7 (by rintro ⟨_,_,⟨_,hv⟩,_⟩; cases hv) kR ?_
 refine sS (ptr gr) (cellC (R:=R) (mem1 ha) inl rfl Tryz.underlying132)<|sS (.int .i64 (s'.e:Int)) (qg (λw hw=>err_any (ib w0.world fz) gr sl' s'.e [] (List.mem_cons_of_mem _ (List.mem_cons_of_mem _ (List.mem_cons_self ..))) w hw))<|sS (.bool false) (Quiet.pure (exec_int .neq _ _ _ .i64 _ _ _ rfl rfl rfl (int_neq _ _ _ _ _ (by rw [hb3]; exact decide_eq_decide.2 (by omega)))))<|sp rfl<|sp rfl<|sp rfl<|sS (.agg cs.toArray) (Quiet.mid 0 gb 0 58 63 63 cs cs _ _ rfl kR rfl Tryz.underlying63 rfl kR (by rw [List.drop_zero,List.take_of_length_le (by omega)]) (by omega)) ?_
 refine Sy.nil ?_
 refine Sy.yieldI (HR:=HRL_ous rep ⟨l,r,s',sl',N++N1,some x⟩) (LR:=λy=>LBL gc gr gl 24 y.r y.s.e y.sl R y.N) rfl (by rintro ⟨_,_,⟨_,hv⟩,_⟩; cases hv) kR kR lp #[.int .i64 (i:Int),.agg cs.toArray] kF (λw hw=>hY (i,cs) ⟨l,r,s',sl',N++N1,some x⟩ w ⟨x,rfl,hylen,hR2,hx2,q2,q3,by show i<1000000; omega⟩ (drop1 hw)) (λy' hy'=>?_)
 obtain ⟨x',r',hx',hr',rfl⟩:=hy'
 obtain rfl:x=x':=by injection hx'
 refine sP (.bool false)<|sP (.bool false) ?_
 refine sG<|sU<|Sy.skip<|Sy.in_<|Sy.then_<|Sy.region ?_
 refine sp rfl<|sS (.int .i64 ((i+1:Nat):Int)) (Quiet.pure (exec_int .add _ _ _ .i64 _ _ _ rfl rfl rfl (int_add _ _ _ _ _ ((wrap_i64 (by omega) (by omega)).trans (by omega)))))<|sp rfl ?_
 refine Sy.nil ?_
 exact Sy.againT ⟨l++[x],r',s',sl',N++N1,none⟩ l1 ⟨by simp [hylen],hr',λ_=>⟨hs10,st1 l3⟩,λh=>(h l3).elim,q5,Nat.le_trans q6 hy.rest,q7⟩ (all_cons kR (all_cons kR (all_cons kR (all_cons kR (all_cons kR (all_cons kR all_nil)))))) (λw h=>h)
theorem list9_r_ous (hm:Mono rep) (hp:GetC 46 58 (([Value.int .i64 0]++(([Value.bool false]++(Z32++lPT ⟨0,0,false⟩))++(([Value.bool false]++([Value.int .u64 0]++lPT ⟨0,0,false⟩))++([Value.slice none 0 0]++([Value.slice none 0 0]++([Value.slice none 0 0]++([Value.slice none 0 0])))))))) rep p) (w0:Base) (gc gr g4 g7 most:Nat) (hmost:most<1000000) (sl0:Value) (s0:RS) (R S:Blocks) (hS:∀ x∈S,x∈R) (h4:(g4,85,#[ptr gc])∈R) (h7:(g7,115,#[.func (.func 46) #[] #[]])∈R) (he:s0.e≤200) (hl:s0.rest.length≤70368744177664) (hv:BytR (rdC w0 S) sl0 s0.rest) (w:World) (hw:St w0 w (CRN gc gr sl0 s0.e R)) :
  Calls Tryz.prog 111 #[ptr gr,.int .i64 (most:Int),.func (.func 112) #[] #[ptr g7,ptr g4]] w (Turns w0 (RdL 58 rep (listP most p) w0 gc gr s0 R S)):=by
 refine Sy.enterTM (args:=[ptr gr,.int .i64 (most:Int),.func (.func 112) #[] #[ptr g7,ptr g4]]) hw Tryz.func111 rfl kL ?_
 refine sC ?_
 refine sP (.slice none 0 0) ?_
 refine sA ?_
 refine sM 24 #[.slice none 0 0] (λgl=>?_)
 refine sG<|Sy.seq<|sC ?_
 refine sp rfl<|sp rfl<|sp rfl ?_
 refine Sy.callN kR 174 #[ptr gr,.int .i64 (most:Int),.func (.func 112) #[] #[ptr g7,ptr g4]] kF _ (λw _=>items_r_ous w gr most g4 g7) (λv M hM=>?_)
 obtain ⟨a,b,c,rfl,rfl⟩:=hM
 refine Sy.nil<|Sy.then_<|Sy.block ?_
 obtain ⟨R1,hR1⟩:∃ R1,R1=R++[(a,132,#[ptr gr]),(b,3,#[.int .i64 (most:Int)]),(c,241,#[.func (.func 112) #[] #[ptr g7,ptr g4]])]:=⟨_,rfl⟩
 refine Sy.permC (M:=LBL gc gr gl 24 nilS s0.e sl0 R1 []) (by rw [hR1]; exact permLB) ?_
 have mR:∀ x∈R,x∈R1:=λx hx=>by rw [hR1]; exact List.mem_append_left _ hx
 have ma:(a,132,#[ptr gr])∈R1:=by rw [hR1]; simp
 have mb:(b,3,#[.int .i64 (most:Int)])∈R1:=by rw [hR1]; simp
 have mc:(c,241,#[.func (.func 112) #[] #[ptr g7,ptr g4]])∈R1:=by rw [hR1]; simp
 refine Sy.rangeT (α:=Nat×List Value) (Y:=YL α) (Z:=Nat) 212 #[ptr a,ptr b,ptr c] kR kR (enters_of Tryz.func212 kR rfl) (λv=>#[.int .i64 (v.1:Int),.agg v.2.toArray]) (λ_=>rfl) (by decide)
  (HYL_ous p rep w0 S 0 s0) (λ_ y=>LBL gc gr gl 24 y.r y.s.e y.sl R1 y.N) (λ_ _ z=>[(7,ptr gl),(9,ptr z)]) (λv y z=>(z,63,v.2.toArray)::LBL gc gr gl 24 y.r y.s.e y.sl R1 y.N) (λ_ y=>HRL_ous rep y) (λy=>LBL gc gr gl 24 y.r y.s.e y.sl R1 y.N)
  (λy:YL α=>∃ m s1,After (varP most) s0 m s1∧s1.rest.length≤s0.rest.length∧y.l.length≤most∧InvL 63 58 rep p w0 S m s1 y.l.length y∧(y.s.e=0→y.l.length=m)) (λy=>LBL gc gr gl 24 y.r y.s.e y.sl R1 y.N) ?_ ?_ ?_ ?_
 ·exact λlp fz w hw hY=>iter_r_ous (rep:=rep) (p:=p) hm hp w0 fz gc gr gl g4 g7 a b c most hmost R1 S s0 sl0 (λx h=>mR x (hS x h)) (mR _ h4) (mR _ h7) ma mb mc he hl hv lp w hw hY
 ·rintro lp fz ⟨i,cs⟩ ⟨l,r,s,sl,N,xo⟩ ⟨x,rfl,_,_,_,c1,c2,_⟩
  dsimp only at c1 c2 ⊢
  refine Sy.regionR (by rintro ⟨_,_,h⟩; exact h) kR ⟨_,rfl⟩ ?_
  refine sM 63 (([Value.int .i64 0]++(([Value.bool false]++(Z32++lPT ⟨0,0,false⟩))++(([Value.bool false]++([Value.int .u64 0]++lPT ⟨0,0,false⟩))++([Value.slice none 0 0]++([Value.slice none 0 0]++([Value.slice none 0 0]++([Value.slice none 0 0])))))))).toArray (λz=>?_)
  refine Sy.permS (M:=(z,63,(([Value.int .i64 0]++(([Value.bool false]++(Z32++lPT ⟨0,0,false⟩))++(([Value.bool false]++([Value.int .u64 0]++lPT ⟨0,0,false⟩))++([Value.slice none 0 0]++([Value.slice none 0 0]++([Value.slice none 0 0]++([Value.slice none 0 0])))))))).toArray)::LBL gc gr gl 24 r s.e sl R1 N) (List.perm_append_comm (l₂:=[(z,63,(([Value.int .i64 0]++(([Value.bool false]++(Z32++lPT ⟨0,0,false⟩))++(([Value.bool false]++([Value.int .u64 0]++lPT ⟨0,0,false⟩))++([Value.slice none 0 0]++([Value.slice none 0 0]++([Value.slice none 0 0]++([Value.slice none 0 0])))))))).toArray)])) ?_
  refine sw 0 rfl cs.toArray (Writes.row 63 cs 58 _ _ rfl kR kR kR c1 (by kernel_rfl) c2) ?_
  refine Sy.nil ?_
  exact apZ z (all_cons kR (all_cons kR all_nil)) (λ_ h=>h)
 ·rintro lp fz ⟨i,cs⟩ ⟨l,r,s,sl,N,xo⟩ z ⟨x,rfl,hli,⟨xs,x1,x2,x3⟩,hx,c1,c2,hi⟩
  dsimp only at c1 c2 hli x1 x2 x3 hx hi ⊢
  refine Sy.block ?_
  refine Sy.regionR (by rintro ⟨_,_,h⟩; exact h) kR ⟨_,rfl⟩ ?_
  refine sS r.v (qc 3 0 rfl rfl Tryz.underlying24)<|sS (.agg cs.toArray) (Quiet.mid 0 z 0 58 63 63 cs cs _ _ rfl kR rfl Tryz.underlying63 rfl kR (by rw [List.drop_zero,List.take_of_length_le (by omega)]) (by omega)) ?_
  refine Sy.make kR 63 cs.toArray (λg=>.slice (some ⟨g,0,none⟩) 1 1) (Makes.one 24 63 _ _ 58 _ cs rfl kR Tryz.underlying24 info_ous rfl rfl c1 (by decide) (by decide)) (λg8=>?_)
  refine Sy.permS (M:=[(z,63,cs.toArray),(gc,134,#[.pointer none,ptr gr,.bool false]),(gr,253,#[sl,.int .i64 (s.e:Int)]),(gl,24,#[r.v]),(g8,63,cs.toArray)]++(r.bl++(R1++N))) (Sy.flat_perm (ls:=[[(z,63,cs.toArray),(gc,134,#[.pointer none,ptr gr,.bool false]),(gr,253,#[sl,.int .i64 (s.e:Int)]),(gl,24,#[r.v])],r.bl++(R1++N),[(g8,63,cs.toArray)]]) (ms:=[[(z,63,cs.toArray),(gc,134,#[.pointer none,ptr gr,.bool false]),(gr,253,#[sl,.int .i64 (s.e:Int)]),(gl,24,#[r.v])],[(g8,63,cs.toArray)],r.bl++(R1++N)]) [0,2,1] (by kernel_rfl) (by rfl) (by simp) (by simp)) ?_
  refine Sy.appendR kR 24 63 _ _ 58 304 Tryz.underlying24 info_ous rfl rfl rfl rfl (by decide) _ _ rfl x1 kR cs c1 c2 4 g8 63 kR kR (by omega) (by simp only [maxLen]; omega) (λr' hr'=>?_)
  refine sw 3 rfl #[r'.v] (Writes.one 0 24 r'.v _ _ rfl kR kR kR hr'.cells.1 hr'.cells.2 Nat.zero_lt_one kR) ?_
  refine Sy.setT ?_
  refine Sy.nil<|Sy.in_ ?_
  exact bpZ ⟨l++[x],r',s,sl,N,none⟩ ⟨x,r',rfl,RowsOk.add (rep:=rep) x2 x3 hr' hx,rfl⟩ (λw h=>Sy.St.parts (ls:=[[(z,63,cs.toArray)],[(gc,134,#[.pointer none,ptr gr,.bool false]),(gr,253,#[sl,.int .i64 (s.e:Int)]),(gl,24,#[r'.v])],[(g8,63,cs.toArray)],r'.bl++(R1++N)]) (ms:=[[(gc,134,#[.pointer none,ptr gr,.bool false]),(gr,253,#[sl,.int .i64 (s.e:Int)]),(gl,24,#[r'.v])],r'.bl++(R1++N)]) [[(z,63,cs.toArray)],[(g8,63,cs.toArray)]] [1,3,0,2] (by kernel_rfl) (by rfl) (by simp) (by simp) h)
 ·rintro D fz ⟨l,r,s,sl,N,xo⟩ ⟨m,s1,hA1,hs1,hlm,hI,hdn⟩ hD hD2 hmk h0
  dsimp only at hI hdn hlm ⊢
  have hse:s.e≤200:=hI.e
  have hrest:s.rest.length≤s0.rest.length:=Nat.le_trans hI.rest hs1
  refine Sy.in_<|Sy.then_<|Sy.seq<|sC ?_
  obtain ⟨b1,hb1⟩:∃ z:Bool,z=decide (s.e≠0):=⟨_,rfl⟩
  refine sp rfl<|sS (.int .i64 (s.e:Int)) (qg (λw hw=>err_any (ab w0.world fz D) gr sl s.e [] (List.mem_cons_of_mem _ (List.mem_cons_self ..)) w hw))<|sS (.bool b1) (Quiet.pure (exec_int .neq _ _ _ .i64 _ _ _ rfl rfl rfl (int_neq _ _ _ _ _ (by rw [hb1]; exact decide_eq_decide.2 (by omega))))) ?_
  refine sG ?_
  cases b1
  ·have l1:s.e=0:=Decidable.of_not_not (of_decide_eq_false hb1.symm)
   obtain ⟨z1,z2⟩:=hI.yes l1
   rw [hdn l1] at z2
   refine sU<|Sy.skip<|sB ?_
   refine sS r.v (qc 2 0 rfl rfl Tryz.underlying24)<|sp rfl ?_
   refine sG<|Sy.ret ?_
   refine Sy.retTM1 (b0:=w0) (M:=CRN gc gr sl s.e (R++(N++r.bl))) rfl (.inl (show _=_ by kernel_rfl)) (λw h=>Sy.St.parts (ls:=[[(gc,134,#[.pointer none,ptr gr,.bool false]),(gr,253,#[sl,.int .i64 (s.e:Int)])],[(gl,24,#[r.v])],r.bl,R,[(a,132,#[ptr gr]),(b,3,#[.int .i64 (most:Int)]),(c,241,#[.func (.func 112) #[] #[ptr g7,ptr g4]])],N]) (ms:=[[(gc,134,#[.pointer none,ptr gr,.bool false]),(gr,253,#[sl,.int .i64 (s.e:Int)])],R,N,r.bl]) [[(gl,24,#[r.v])],[(a,132,#[ptr gr]),(b,3,#[.int .i64 (most:Int)]),(c,241,#[.func (.func 112) #[] #[ptr g7,ptr g4]])]] [0,3,5,2,1,4] (by kernel_rfl) (by rfl) (by rw [hR1]; simp) (by simp) h) ⟨l,s,sl,N++r.bl,hA1.bind ⟨λh=>(h z1).elim,λy q _ hy=>?_,λ_ hy=>?_⟩,RowsOk.lst (rep:=rep) hm hI.rows,hse,hrest,hI.byt,rfl⟩ hD hD2 hmk h0.out
   ·rw [z2] at hy
    cases hy
    exact ⟨rfl,by rw [← l1]⟩
   ·rw [z2] at hy; cases hy
  ·have l1:s.e≠0:=of_decide_eq_true hb1.symm
   refine sT<|sC ?_
   refine sP (.slice none 0 0) ?_
   refine sG<|Sy.ret<|Sy.then_ret ?_
   refine Sy.retTM1 (b0:=w0) (M:=CRN gc gr sl s.e (R++[])) rfl (.inl (show _=_ by kernel_rfl)) (λw h=>Sy.St.parts (ls:=[[(gc,134,#[.pointer none,ptr gr,.bool false]),(gr,253,#[sl,.int .i64 (s.e:Int)])],[(gl,24,#[r.v])],r.bl,R,[(a,132,#[ptr gr]),(b,3,#[.int .i64 (most:Int)]),(c,241,#[.func (.func 112) #[] #[ptr g7,ptr g4]])],N]) (ms:=[[(gc,134,#[.pointer none,ptr gr,.bool false]),(gr,253,#[sl,.int .i64 (s.e:Int)])],R]) [[(gl,24,#[r.v])],r.bl,[(a,132,#[ptr gr]),(b,3,#[.int .i64 (most:Int)]),(c,241,#[.func (.func 112) #[] #[ptr g7,ptr g4]])],N] [0,3,1,2,4,5] (by kernel_rfl) (by rfl) (by rw [hR1]; simp) (by simp) h) ⟨[],s,sl,[],hA1.bind ⟨λ_=>l1,λy q h1 hy=>?_,λ_ _=>l1⟩,⟨none,0,0,rfl,rfl,Nat.le_refl _,Nat.zero_le _,λh=>(h rfl).elim⟩,hse,hrest,hI.byt,rfl⟩ hD hD2 hmk h0.out
   rcases hI.no l1 with h | h
   ·exact (h h1).elim
   ·rw [h] at hy; cases hy
theorem list_r_ous (hm:Mono rep) (hp:GetC 46 58 (([Value.int .i64 0]++(([Value.bool false]++(Z32++lPT ⟨0,0,false⟩))++(([Value.bool false]++([Value.int .u64 0]++lPT ⟨0,0,false⟩))++([Value.slice none 0 0]++([Value.slice none 0 0]++([Value.slice none 0 0]++([Value.slice none 0 0])))))))) rep p) (w0:Base) (gc gr gx f most:Nat) (hmost:most<1000000) (tx:TypeId) (A Z:List Value) (sl:Value) (s:RS) (R S:Blocks) (hS:∀ b∈S,b∈R) (hA:A.length=f) (he:s.e≤200) (hl:s.rest.length≤70368744177664) (hv:BytR (rdC w0 S) sl s.rest) (w:World) (hw:St w0 w (CRS gc gr gx tx (A++([Value.slice none 0 0]++Z)) sl s.e R)) :
  Calls Tryz.prog 62 #[ptr gc,.pointer (some ⟨gx,f,none⟩),.int .i64 (most:Int),.func (.func 46) #[] #[]] w (Turns w0 (RdT 1 (repL 58 rep) (listP most p) w0 gc gr gx tx A Z s R S)):=by
 refine Sy.enterT (args:=[ptr gc,.pointer (some ⟨gx,f,none⟩),.int .i64 (most:Int),.func (.func 46) #[] #[]]) hw Tryz.func62 rfl kL ?_
 refine sC ?_
 refine sM 85 #[ptr gc] (λg4=>?_)
 refine sM 115 #[.func (.func 46) #[] #[]] (λg7=>?_)
 obtain ⟨R1,hR1⟩:∃ R1,R1=R++([(g4,85,#[ptr gc])]++[(g7,115,#[.func (.func 46) #[] #[]])]):=⟨_,rfl⟩
 refine Sy.permS (M:=CRS gc gr gx tx (A++([Value.slice none 0 0]++Z)) sl s.e R1) (List.Perm.of_eq (by rw [hR1]; simp)) ?_
 have mR:∀ x∈R,x∈R1:=λx hx=>by rw [hR1]; exact List.mem_append_left _ hx
 have m4:(g4,85,#[ptr gc])∈R1:=by rw [hR1]; simp
 have m7:(g7,115,#[.func (.func 46) #[] #[]])∈R1:=by rw [hR1]; simp
 refine sG<|Sy.seq<|sC ?_
 refine sS (ptr gc) (cellC (R:=R1) (mem1 m4) inCR rfl Tryz.underlying85)<|sS (.bool true) (qg (λw hw=>reads_r w0.inn gc gr _ _ (List.mem_cons_self ..) w hw)) ?_
 refine sG<|sT<|sC ?_
 refine sp rfl<|sS (ptr gc) (cellC (R:=R1) (mem1 m4) inCR rfl Tryz.underlying85)<|sp rfl<|sP (.pointer (some ⟨gc,1,none⟩))<|sS (ptr gr) (qc 0 1 rfl rfl Tryz.underlying132)<|sp rfl<|sP (.func (.func 112) #[] #[ptr g7,ptr g4]) ?_
 refine Sy.callT (λw hw=>list9_r_ous (rep:=rep) (p:=p) hm hp w0.inn gc gr g4 g7 most hmost sl s ((gx,tx,(A++([Value.slice none 0 0]++Z)).toArray)::R1) S (λx h=>List.mem_cons_of_mem _ (mR x (hS x h))) (List.mem_cons_of_mem _ m4) (List.mem_cons_of_mem _ m7) he hl hv w (hw.perm swap23)) (λv M hM=>?_)
 obtain ⟨l,s',sl',N,q1,q2,q3,q4,q5,rfl⟩:=hM
 refine Sy.permS (M:=CRS gc gr gx tx (A++([Value.slice none 0 0]++Z)) sl' s'.e (R1++N)) swap23 ?_
 refine sp rfl<|sw 1 rfl (A++([v]++Z)).toArray (Writes.one f 24 v _ _ rfl kR kR kR q2.cells.1 q2.cells.2 (by rw [List.size_toArray,List.length_append,hA]; exact Nat.lt_add_of_pos_right (Nat.succ_pos _)) (set_mid hA)) ?_
 refine sG<|Sy.ret<|Sy.then_ret ?_
 exact Sy.retT0 rfl (CRS gc gr gx tx (A++([v]++Z)) sl' s'.e (R++N)) (λw h=>Sy.St.parts (ls:=[[(gc,134,#[.pointer none,ptr gr,.bool false]),(gx,tx,(A++([v]++Z)).toArray),(gr,253,#[sl',.int .i64 (s'.e:Int)])],R,[(g4,85,#[ptr gc])]++[(g7,115,#[.func (.func 46) #[] #[]])],N]) (ms:=[[(gc,134,#[.pointer none,ptr gr,.bool false]),(gx,tx,(A++([v]++Z)).toArray),(gr,253,#[sl',.int .i64 (s'.e:Int)])],R,N]) [[(g4,85,#[ptr gc])]++[(g7,115,#[.func (.func 46) #[] #[]])]] [0,1,3,2] (by kernel_rfl) (by rfl) (by rw [hR1]; simp) (by simp) h) (λ_=>⟨l,s',sl',[v],N,q1,rfl,λu hu=>by rw [List.mem_singleton.1 hu]; exact q2.cells.2,⟨v,rfl,q2⟩,q3,q4,q5,rfl⟩)
end
end Wr
end
section
namespace Wr
open Go.RowKit Sy
set_option maxRecDepth 100000
set_option maxHeartbeats 4000000
end Wr
end
section
namespace Wr
open Go.RowKit Sy
set_option maxRecDepth 100000
set_option maxHeartbeats 4000000
end Wr
end
section
namespace Wr
open Go.RowKit Sy
set_option maxRecDepth 100000
set_option maxHeartbeats 4000000
end Wr
end
section
namespace Wr
open Go.RowKit Sy
set_option maxRecDepth 100000
set_option maxHeartbeats 4000000
end Wr
end
section
namespace Wr
open Go.RowKit Sy
set_option maxRecDepth 100000
set_option maxHeartbeats 4000000
end Wr
end
section
namespace Wr
open Go.RowKit Sy
set_option maxRecDepth 100000
set_option maxHeartbeats 4000000
end Wr
end
section
namespace Wr
open Go.RowKit Sy
set_option maxRecDepth 100000
set_option maxHeartbeats 4000000
end Wr
end
section
namespace Wr
open Go.RowKit Sy
set_option maxRecDepth 100000
set_option maxHeartbeats 4000000
end Wr
end
section
namespace Wr
open Go.RowKit Sy
set_option maxRecDepth 100000
set_option maxHeartbeats 4000000
end Wr
end
section
namespace Wr
open Go.RowKit Sy
set_option maxRecDepth 100000
set_option maxHeartbeats 4000000
end Wr
end
section
namespace Wr
open Go.RowKit Sy
set_option maxRecDepth 100000
set_option maxHeartbeats 4000000
end Wr
end
section
namespace Wr
open Go.RowKit Sy
set_option maxRecDepth 100000
set_option maxHeartbeats 4000000
end Wr
end
section
namespace Wr
open Go.RowKit Sy
set_option maxRecDepth 100000
set_option maxHeartbeats 4000000
end Wr
end
section
namespace Cu
open Go.RowKit Sy
set_option maxRecDepth 100000
set_option maxHeartbeats 4000000
section
variable {P:Program} {w0:Base} {n:Nat} {F:Slots} {L:Blocks}
end
end Cu
end
section
section
open Go.RowKit Go.Lib
end
end
section
namespace Sy
open Go.RowKit
section
variable {P:Program} {w0:Base} {n:Nat} {Q:Exit→Act→World→Prop} {F:Slots} {L:Blocks}
end
end Sy
end
section
namespace Cu
open Go.RowKit Sy
end Cu
end
section
namespace Cu
open Go.RowKit Sy
set_option maxRecDepth 100000
set_option maxHeartbeats 4000000
section
variable {P:Program} {w0:Base} {F:Slots} {L:Blocks} {o:Oper}
end
end Cu
end
section
namespace Wr
open Go.RowKit Sy
set_option maxRecDepth 100000
set_option maxHeartbeats 4000000
end Wr
end
section
namespace Wr
open Go.RowKit Sy
set_option maxRecDepth 100000
set_option maxHeartbeats 4000000
end Wr
end
section
namespace Wr
open Go.RowKit Sy
set_option maxRecDepth 100000
set_option maxHeartbeats 4000000
end Wr
end
section
namespace Wr
open Go.RowKit Sy
set_option maxRecDepth 100000
set_option maxHeartbeats 4000000
end Wr
end
section
namespace Wr
open Go.RowKit Sy
set_option maxRecDepth 100000
set_option maxHeartbeats 4000000
end Wr
end
section
namespace Wr
open Go.RowKit Sy
set_option maxRecDepth 100000
set_option maxHeartbeats 4000000
end Wr
end
section
namespace Wr
open Go.RowKit Sy
set_option maxRecDepth 100000
set_option maxHeartbeats 4000000
end Wr
end
section
namespace Wr
open Go.RowKit Sy
set_option maxRecDepth 100000
set_option maxHeartbeats 4000000
end Wr
end
section
namespace Wr
open Go.RowKit Sy
set_option maxRecDepth 100000
set_option maxHeartbeats 4000000
theorem conv_48 (w:World) (F:Slots) (o:Oper) (x:Operand) (n:Nat) (hn:n<4294967296) (ho:o.op=.convert 140 22 x) (hx:evF F x=.int .u32 (n:Int)):(execOp (evF F) o).run Tryz.prog w=.ok (.value (.int .u64 (n:Int))) w:=by
 have h:(convert 140 22 (.int .u32 (n:Int))).run Tryz.prog w=.ok (.int .u64 (n:Int)) w:=by
  go_simp
  unfold IntKind.wrap
  simp [IntKind.signed,IntKind.bits]
  omega
 unfold execOp
 simp only [ho,hx,Sem.run_bind,h,Result.andThen_ok,Sem.run_pure]
theorem conv_84 (w:World) (F:Slots) (o:Oper) (x:Operand) (n:Nat) (hn:n<4294967296) (ho:o.op=.convert 22 140 x) (hx:evF F x=.int .u64 (n:Int)):(execOp (evF F) o).run Tryz.prog w=.ok (.value (.int .u32 (n:Int))) w:=by
 have h:(convert 22 140 (.int .u64 (n:Int))).run Tryz.prog w=.ok (.int .u32 (n:Int)) w:=by
  go_simp
  unfold IntKind.wrap
  simp [IntKind.signed,IntKind.bits]
  omega
 unfold execOp
 simp only [ho,hx,Sem.run_bind,h,Result.andThen_ok,Sem.run_pure]
theorem word_any (w0:Base) (gw:Nat) (s:Slc) (R:Blocks) (b:Byt) (n:Nat) (hn:n<4294967296) (hb:BS s b) (hl:b.length≤70368744177664) (w:World) (hw:St w0 w (WS gw s R)) :
  Calls Tryz.prog 202 #[ptr gw,.int .u32 (n:Int)] w (Turns w0 (Wr gw R (b++nb 4 n))):=by
 refine Sy.enterT (args:=[ptr gw,.int .u32 (n:Int)]) hw Tryz.func202 rfl kL ?_
 refine Sy.region ?_
 refine sp rfl<|sp rfl<|sS (.int .u64 (n:Int)) (Quiet.pure (λw=>conv_48 w _ _ _ n hn rfl rfl)) ?_
 refine Sy.callT (λw hw=>fixed_any _ gw s R b n 4 (by omega) (by decide) hb hl w hw) (λv M hM=>?_)
 obtain ⟨s1,hs1,rfl⟩:=hM
 refine Sy.nil ?_
 exact Sy.retT0 rfl (WS gw s1 R) (λ_ h=>h) (λ_=>⟨s1,hs1,rfl⟩)
theorem word_w (w0:Base) (gc gw gx f:Nat) (bad:Bool) (s:Slc) (R:Blocks) (b:Byt) (n:Nat) (hn:n<4294967296) (hc:rdC w0 R gx f (.int .u32 (n:Int))) (hb:BS s b) (hl:b.length+4≤70368744177000) (w:World) (hw:St w0 w (CWS gc gw bad s R)) :
  Calls Tryz.prog 166 #[ptr gc,.pointer (some ⟨gx,f,none⟩)] w (Turns w0 (WrC gc gw R true (nb 4 n) 4 bad b)):=by
 have item:∀ w,St w0.inn w (CWS gc gw bad s R)→Calls Tryz.prog 201 #[ptr gc,.pointer (some ⟨gx,f,none⟩),.func (.func 202) #[] #[],.func (.func 203) #[] #[]] w (Turns w0.inn (WrC gc gw R true (nb 4 n) 4 bad b)):=λw hw=>by
  refine Sy.enterT (args:=[ptr gc,.pointer (some ⟨gx,f,none⟩),.func (.func 202) #[] #[],.func (.func 203) #[] #[]]) hw Tryz.func201 rfl kL ?_
  refine sC ?_
  refine sp rfl<|sS (.bool false) (qg (λw hw=>reads_w w0.inn gc _ _ (List.mem_cons_self ..) w hw)) ?_
  refine sG<|sU ?_
  refine Sy.regionD (λj=>j == 8) kR ?_
  refine sa 0 rfl rfl<|sa 1 rfl rfl<|sa 2 rfl rfl<|sb 3 rfl (.pointer (some ⟨gc,0,none⟩))<|sD 4 rfl (ptr gw) (qc 0 0 rfl rfl Tryz.underlying130)<|sa 5 rfl rfl<|sa 6 rfl rfl<|sD 7 rfl (.int .u32 (n:Int)) (cellC (R:=R) hc inCW rfl Tryz.underlying140) ?_
  refine Sy.soleD 8 rfl (λQ2 hq2=>?_)
  refine Sy.callT (λw hw=>word_any w0.inn gw s ((gc,134,#[ptr gw,.pointer none,.bool bad])::R) b n hn hb (by omega) w (hw.perm permCW)) (λu M hM=>?_)
  obtain ⟨s1,hs1,rfl⟩:=hM
  refine Sy.permS permCW.symm ?_
  refine hq2 _ _ ?_
  refine sE ?_
  exact Sy.retT0 rfl (CWS gc gw bad s1 R) (λ_ h=>h) (λ_=>⟨s1,bad,b++nb 4 n,Wrote.raw _ bad b (by rw [nb_len]; exact Nat.le_refl _),hs1,rfl⟩)
 refine Sy.enterT (args:=[ptr gc,.pointer (some ⟨gx,f,none⟩)]) hw Tryz.func166 rfl kL ?_
 refine Sy.region ?_
 refine sp rfl<|sp rfl ?_
 refine Sy.callT (λw hw=>item w hw) (λu M hM=>?_)
 obtain ⟨s1,bad1,b1,h1,h2,rfl⟩:=hM
 refine Sy.nil ?_
 exact Sy.retT0 rfl (CWS gc gw bad1 s1 R) (λ_ h=>h) (λ_=>⟨s1,bad1,b1,h1,h2,rfl⟩)
def rep32 (_:Rdr) (cs:List Value) (n:Nat):Prop:=cs=[.int .u32 (n:Int)]∧n<4294967296
theorem word9_any (w0:Base) (gr:Nat) (sl:Value) (s:RS) (R S:Blocks) (hS:∀ b∈S,b∈R) (he0:s.e≤200) (hv:BytR (rdC w0 S) sl s.rest) (w:World) (hw:St w0 w (RQ gr sl s.e R)) :
  Calls Tryz.prog 203 #[ptr gr] w (Turns w0 (Rdd (numP 4) (λx v=>v=.int .u32 (x:Int)∧x<4294967296) w0 gr R S s)):=by
 obtain ⟨f,hf⟩:∃ f,f=fxN s.rest 4:=⟨_,rfl⟩
 obtain ⟨q1,q2,q3⟩:=fxN_fit s.rest 4 (by decide)
 have hy:=@fx_yes s.rest 4
 have hno:=@fx_no s.rest 4
 have hlt:f.1<4294967296:=by
  rw [hf]
  unfold fxN
  split
  ·decide
  ·have h:=said_lt (s.rest.take 4)
   have h2:256 ^ (s.rest.take 4).length≤256 ^ 4:=Nat.pow_le_pow_right (by decide) (by rw [List.length_take]; omega)
   exact Nat.lt_of_lt_of_le h h2
 rw [← hf] at q1 q2 q3 hy hno
 refine Sy.enterT (args:=[ptr gr]) hw Tryz.func203 rfl kL ?_
 refine sC ?_
 refine sP (.int .u32 0) ?_
 refine sA ?_
 refine sp rfl<|sp rfl<|sp rfl<|sP (.pointer (some ⟨gr,0,none⟩))<|sS sl (qc 0 0 rfl rfl Tryz.underlying27)<|sS (t3V f) (qg (λw' hw=>by rw [hf]; exact fixedR_any w' _ _ 4 (by decide) (by decide) (hv.le (rdC_world (w0:=w0.inn) hw (λ_ h=>List.mem_cons_of_mem _ (hS _ h))))))<|sp rfl<|sp rfl<|sp rfl ?_
 refine Sy.callT (λw hw=>number_any (numP 4) w0.inn gr sl s R S hS f.1 f.2.1 f.2.2 he0 q3 (by omega) q1 (λh=>⟨(hy h).1,(hy h).2.1⟩) hno hv w hw) (λv M hM=>?_)
 obtain ⟨x,s',sl',hA,⟨rfl,hx⟩,h2,h3,h4,rfl⟩:=hM
 refine sS (.int .u32 (x:Int)) (Quiet.pure (λw=>conv_84 w _ _ _ x (by omega) rfl rfl))<|sp rfl ?_
 refine sG<|Sy.ret ?_
 exact Sy.retT1 (RQ gr sl' s'.e R) rfl (.inl (show _=_ by kernel_rfl)) (λ_ h=>h) ⟨x,s',sl',hA,⟨rfl,by omega⟩,h2,h3,h4,rfl⟩
theorem word_r:GetC 166 1 [.int .u32 0] rep32 (numP 4):=λw0 gc gr gx f tx A Z sl s R S hS hA he hl hv w hw=>by
 have item:∀ w,St w0.inn w (CRS gc gr gx tx (A++([Value.int .u32 0]++Z)) sl s.e R)→Calls Tryz.prog 201 #[ptr gc,.pointer (some ⟨gx,f,none⟩),.func (.func 202) #[] #[],.func (.func 203) #[] #[]] w (Turns w0.inn (RdT 1 rep32 (numP 4) w0.inn gc gr gx tx A Z s R S)):=λw hw=>by
  refine Sy.enterT (args:=[ptr gc,.pointer (some ⟨gx,f,none⟩),.func (.func 202) #[] #[],.func (.func 203) #[] #[]]) hw Tryz.func201 rfl kL ?_
  refine sC ?_
  refine sp rfl<|sS (.bool true) (qg (λw hw=>reads_r w0.inn gc gr _ _ (List.mem_cons_self ..) w hw)) ?_
  refine sG<|sT<|Sy.region ?_
  refine sp rfl<|sp rfl<|sp rfl<|sp rfl<|sP (.pointer (some ⟨gc,1,none⟩))<|sS (ptr gr) (qc 0 1 rfl rfl Tryz.underlying132) ?_
  refine Sy.callT (λw hw=>word9_any w0.inn gr sl s ((gc,134,#[.pointer none,ptr gr,.bool false])::(gx,tx,(A++([Value.int .u32 0]++Z)).toArray)::R) S (λb h=>List.mem_cons_of_mem _ (List.mem_cons_of_mem _ (hS b h))) he hv w (hw.perm permCR)) (λu M hM=>?_)
  obtain ⟨x,s',sl',q1,⟨rfl,q2⟩,q3,q4,q5,rfl⟩:=hM
  refine Sy.permS permCR.symm ?_
  refine sp rfl<|sw 1 rfl (A++([Value.int .u32 (x:Int)]++Z)).toArray (Writes.one f 140 (.int .u32 (x:Int)) _ _ rfl kR kR kR rfl rfl (by rw [List.size_toArray,List.length_append,hA]; exact Nat.lt_add_of_pos_right (Nat.succ_pos _)) (set_mid hA)) ?_
  refine Sy.nil ?_
  exact Sy.retT0 rfl (CRS gc gr gx tx (A++([Value.int .u32 (x:Int)]++Z)) sl' s'.e R) (λ_ h=>h) (λ_=>⟨x,s',sl',[Value.int .u32 (x:Int)],[],q1,rfl,λu hu=>by rw [List.mem_singleton.1 hu]; rfl,⟨rfl,q2⟩,q3,q4,q5,by rw [List.append_nil]⟩)
 refine Sy.enterT (args:=[ptr gc,.pointer (some ⟨gx,f,none⟩)]) hw Tryz.func166 rfl kL ?_
 refine Sy.region ?_
 refine sp rfl<|sp rfl ?_
 refine Sy.callT (λw hw=>item w hw) (λu M hM=>?_)
 refine Sy.nil ?_
 have hM':=hM
 obtain ⟨x,s',sl',cs,N,q1,q2,q3,q4,q5,q6,q7,rfl⟩:=hM'
 exact Sy.retT0 rfl _ (λ_ h=>h) (λ_=>hM)
end Wr
end
section
namespace Sc
open Go.RowKit
def pM:Nat:=115792089237316195423570985008687907852837564279074904382605163141518161494337
theorem pM_eq:pM=115792089237316195423570985008687907852837564279074904382605163141518161494337:=rfl
theorem mod_lt (n:Nat):n%pM<(2^256):=by have:=Nat.mod_lt n (show 0<pM by decide); rw [pM_eq] at this ⊢; omega
theorem mod_lt_p (n:Nat):n%pM<pM:=Nat.mod_lt n (by decide)
end Sc
end
section
namespace Sc
open Go.RowKit Go.Lib
theorem order_any (w:World):Calls Tryz.prog 265 #[] w λe w'=>e=.returned (fv 115792089237316195423570985008687907852837564279074904382605163141518161494337)∧Below w.heap.size w w':=by
 go_enter Tryz.func265,Tryz.ntmps265
 go_wp2
 exact bodyPost_ret (results_cell_row rfl _ _ w.heap.size _ _ (0,0) _ rfl (heap_alloc_new w _) Tryz.underlying143 rfl (by kernel_rfl)) rfl ⟨rfl,(Below.refl _ _).alloc (Nat.le_refl _) _⟩
set_option maxHeartbeats 8000000 in
set_option maxRecDepth 100000 in
theorem minus_any (w:World) (x y:Nat) (hx:x<(2^256)) (hy:y<(2^256)):Calls Tryz.prog 264 #[fv x,fv y] w λe w'=>(∃ s k:Nat,s<(2^256)∧k≤1∧s+y=x+(2^256)*k∧e=.returned (.tuple #[fv s,.int .u64 (k:Int)]))∧Below w.heap.size w w':=by
 obtain ⟨x0,x1,x2,x3,a0,a1,a2,a3,ex,fx⟩:=words_of x hx
 obtain ⟨y0,y1,y2,y3,b0,b1,b2,b3,ey,fy⟩:=words_of y hy
 rw [fx,fy]
 obtain ⟨s0,c0,d0,k0,e0,r0⟩:=sub0_ex x0 y0 a0 b0
 obtain ⟨s1,c1,d1,k1,e1,r1⟩:=subc_ex x1 y1 c0 a1 b1 k0
 obtain ⟨s2,c2,d2,k2,e2,r2⟩:=subc_ex x2 y2 c1 a2 b2 k1
 obtain ⟨s3,c3,d3,k3,e3,r3⟩:=subc_ex x3 y3 c2 a3 b3 k2
 have fin:s0+18446744073709551616*s1+340282366920938463463374607431768211456*s2+6277101735386680763835789423207666416102355444464034512896*s3+y=x+(2^256)*c3:=by omega
 have hs:=Lib.hid (fv_mk s0 s1 s2 s3 d0 d1 d2 d3)
 have hlt:=Lib.hid (fv_lt s0 s1 s2 s3 d0 d1 d2 d3)
 have HF:=Lib.hid fin
 have HK:=Lib.hid k3
 clear ex ey fx fy e0 e1 e2 e3 a0 a1 a2 a3 b0 b1 b2 b3 d0 d1 d2 d3 k0 k1 k2 k3 fin hx hy
 go_enter Tryz.func264,Tryz.ntmps264
 go_wp2_with fail
 go_loopw [5,7] (λbo i wr=>Below w.heap.size w wr∧Blk wr w.heap.size 143 #[.int .u64 (x0:Int),.int .u64 (x1:Int),.int .u64 (x2:Int),.int .u64 (x3:Int)]∧Blk wr (w.heap.size+1) 143 #[.int .u64 (y0:Int),.int .u64 (y1:Int),.int .u64 (y2:Int),.int .u64 (y3:Int)]∧Hid ((i=.int .i64 0∧bo=.int .u64 0∧Blk wr (w.heap.size+2) 143 #[.int .u64 0,.int .u64 0,.int .u64 0,.int .u64 0])∨(i=.int .i64 1∧bo=.int .u64 (c0:Int)∧Blk wr (w.heap.size+2) 143 #[.int .u64 (s0:Int),.int .u64 0,.int .u64 0,.int .u64 0])∨(i=.int .i64 2∧bo=.int .u64 (c1:Int)∧Blk wr (w.heap.size+2) 143 #[.int .u64 (s0:Int),.int .u64 (s1:Int),.int .u64 0,.int .u64 0])∨(i=.int .i64 3∧bo=.int .u64 (c2:Int)∧Blk wr (w.heap.size+2) 143 #[.int .u64 (s0:Int),.int .u64 (s1:Int),.int .u64 (s2:Int),.int .u64 0])∨(i=.int .i64 4∧bo=.int .u64 (c3:Int)∧Blk wr (w.heap.size+2) 143 #[.int .u64 (s0:Int),.int .u64 (s1:Int),.int .u64 (s2:Int),.int .u64 (s3:Int)]))) (λ_ i _=>4 - (intOf i).toNat)
 case atStart=>exact ⟨below_alloc3 w _ _ _,((Blk.new w _ _).alloc _).alloc _,(blk_new2 w _ _ _).alloc _,Lib.hid (.inl ⟨rfl,rfl,blk_new3 w _ _ _ _⟩)⟩
 case round =>
  obtain ⟨hb,BX,BY,HI⟩:=hrel
  have lX:=BX.lt
  have lY:=BY.lt
  rcases HI.out with ⟨rfl,rfl,BW⟩ | ⟨rfl,rfl,BW⟩ | ⟨rfl,rfl,BW⟩ | ⟨rfl,rfl,BW⟩ | ⟨rfl,rfl,BW⟩
  ·clear HI
   have px:wr.cell? ⟨w.heap.size,0,none⟩=some (.int .u64 (x0:Int)):=BX.cell 0
   have py:wr.cell? ⟨w.heap.size+1,0,none⟩=some (.int .u64 (y0:Int)):=BY.cell 0
   go_wp2
   refine wp_region_G (λj=>j == 13) (by kernel_rfl) ?_
   try simp only [Act.put]
   refine tk 0 rfl ?_
   try simp only [Act.put,aA,aZ,aS]
   refine tk 1 rfl ?_
   try simp only [Act.put,aA,aZ,aS]
   refine tk 2 rfl ?_
   try simp only [Act.put,aA,aZ,aS]
   refine tkw 3 rfl (YieldsG.pure (v:=.int .u64 (x0:Int)) (by rfl) (λw9 h9=>by have hz:=(Below.cell (p:=⟨w.heap.size,0,none⟩) h9 lX).trans px; go_simp; first | done | simp [hz])) ?_
   try simp only [Act.put,aA,aZ,aS]
   refine tk 4 rfl ?_
   try simp only [Act.put,aA,aZ,aS]
   refine tk 5 rfl ?_
   try simp only [Act.put,aA,aZ,aS]
   refine tkw 6 rfl (YieldsG.pure (v:=.int .u64 (y0:Int)) (by rfl) (λw9 h9=>by have hz:=(Below.cell (p:=⟨w.heap.size+1,0,none⟩) h9 lY).trans py; go_simp; first | done | simp [hz])) ?_
   try simp only [Act.put,aA,aZ,aS]
   refine tk 7 rfl ?_
   try simp only [Act.put,aA,aZ,aS]
   refine tkw 8 rfl (YieldsG.pure (v:=.tuple #[.int .u64 (s0:Int),.int .u64 (c0:Int)]) (by rfl) (λw9 h9=>by go_simp)) ?_
   try simp only [Act.put,aA,aZ,aS]
   refine tk 9 rfl ?_
   try simp only [Act.put,aA,aZ,aS]
   refine tk 10 rfl ?_
   try simp only [Act.put,aA,aZ,aS]
   refine wpAnyG_takeA 11 rfl (by kernel_rfl) (λ_ _ _ h=>h) (λ_=>YieldsG.pure (by rfl) (λw9 _=>by go_simp; try with_reducible rfl)) ?_
   try simp only [Act.put,aA,aZ,aS]
   refine tk 12 rfl ?_
   try simp only [Act.put,aA,aZ,aS]
   refine wpAnyG_sole 13 rfl (by kernel_rfl) (by rfl) (λu hu K hK=>?_)
   have BX:=Gr.blk hu BX
   have BY:=Gr.blk hu BY
   have BW:=Gr.blk hu BW
   have hb:=Below.gr hb hu
   have pc:u.cell? ⟨w.heap.size+2,0,none⟩=some (.int .u64 0):=BW.cell 0
   have pf:=BW.frozen 0
   clear hu px py
   go_simp
   refine hK _ _ (λe=>by cases e) ?_
   clear hK K
   have hb:=hb.setCell (p:=⟨w.heap.size+2,0,none⟩) (by show w.heap.size≤w.heap.size+2; omega) (.int .u64 (s0:Int))
   have BX:=BX.far (p:=⟨w.heap.size+2,0,none⟩) (by show w.heap.size≠w.heap.size+2; omega) (.int .u64 (s0:Int))
   have BY:=BY.far (p:=⟨w.heap.size+2,0,none⟩) (by show w.heap.size+1≠w.heap.size+2; omega) (.int .u64 (s0:Int))
   have BW:=BW.set_ 0 (.int .u64 (s0:Int))
   refine wpAnyG_takeA 14 rfl (by kernel_rfl) (λ_ _ _ h=>h) (λ_=>YieldsG.pure (by rfl) (λw9 _=>by go_simp; try with_reducible rfl)) ?_
   try simp only [Act.put,aA,aZ,aS]
   refine wpAnyG_done (by kernel_rfl) (λv hv=>?_)
   have hb:=Below.gr hb hv
   have BX:=Gr.blk hv BX
   have BY:=Gr.blk hv BY
   have BW:=Gr.blk hv BW
   clear hv pc pf
   go_wp2
   refine ⟨⟨hb,BX,BY,Lib.hid (.inr (.inl (⟨rfl,rfl,BW⟩)))⟩,by decide⟩
  ·clear HI
   have px:wr.cell? ⟨w.heap.size,1,none⟩=some (.int .u64 (x1:Int)):=BX.cell 1
   have py:wr.cell? ⟨w.heap.size+1,1,none⟩=some (.int .u64 (y1:Int)):=BY.cell 1
   go_wp2
   refine wp_region_G (λj=>j == 13) (by kernel_rfl) ?_
   try simp only [Act.put]
   refine tk 0 rfl ?_
   try simp only [Act.put,aA,aZ,aS]
   refine tk 1 rfl ?_
   try simp only [Act.put,aA,aZ,aS]
   refine tk 2 rfl ?_
   try simp only [Act.put,aA,aZ,aS]
   refine tkw 3 rfl (YieldsG.pure (v:=.int .u64 (x1:Int)) (by rfl) (λw9 h9=>by have hz:=(Below.cell (p:=⟨w.heap.size,1,none⟩) h9 lX).trans px; go_simp; first | done | simp [hz])) ?_
   try simp only [Act.put,aA,aZ,aS]
   refine tk 4 rfl ?_
   try simp only [Act.put,aA,aZ,aS]
   refine tk 5 rfl ?_
   try simp only [Act.put,aA,aZ,aS]
   refine tkw 6 rfl (YieldsG.pure (v:=.int .u64 (y1:Int)) (by rfl) (λw9 h9=>by have hz:=(Below.cell (p:=⟨w.heap.size+1,1,none⟩) h9 lY).trans py; go_simp; first | done | simp [hz])) ?_
   try simp only [Act.put,aA,aZ,aS]
   refine tk 7 rfl ?_
   try simp only [Act.put,aA,aZ,aS]
   refine tkw 8 rfl (YieldsG.pure (v:=.tuple #[.int .u64 (s1:Int),.int .u64 (c1:Int)]) (by rfl) (λw9 h9=>by go_simp)) ?_
   try simp only [Act.put,aA,aZ,aS]
   refine tk 9 rfl ?_
   try simp only [Act.put,aA,aZ,aS]
   refine tk 10 rfl ?_
   try simp only [Act.put,aA,aZ,aS]
   refine wpAnyG_takeA 11 rfl (by kernel_rfl) (λ_ _ _ h=>h) (λ_=>YieldsG.pure (by rfl) (λw9 _=>by go_simp; try with_reducible rfl)) ?_
   try simp only [Act.put,aA,aZ,aS]
   refine tk 12 rfl ?_
   try simp only [Act.put,aA,aZ,aS]
   refine wpAnyG_sole 13 rfl (by kernel_rfl) (by rfl) (λu hu K hK=>?_)
   have BX:=Gr.blk hu BX
   have BY:=Gr.blk hu BY
   have BW:=Gr.blk hu BW
   have hb:=Below.gr hb hu
   have pc:u.cell? ⟨w.heap.size+2,1,none⟩=some (.int .u64 0):=BW.cell 1
   have pf:=BW.frozen 1
   clear hu px py
   go_simp
   refine hK _ _ (λe=>by cases e) ?_
   clear hK K
   have hb:=hb.setCell (p:=⟨w.heap.size+2,1,none⟩) (by show w.heap.size≤w.heap.size+2; omega) (.int .u64 (s1:Int))
   have BX:=BX.far (p:=⟨w.heap.size+2,1,none⟩) (by show w.heap.size≠w.heap.size+2; omega) (.int .u64 (s1:Int))
   have BY:=BY.far (p:=⟨w.heap.size+2,1,none⟩) (by show w.heap.size+1≠w.heap.size+2; omega) (.int .u64 (s1:Int))
   have BW:=BW.set_ 1 (.int .u64 (s1:Int))
   refine wpAnyG_takeA 14 rfl (by kernel_rfl) (λ_ _ _ h=>h) (λ_=>YieldsG.pure (by rfl) (λw9 _=>by go_simp; try with_reducible rfl)) ?_
   try simp only [Act.put,aA,aZ,aS]
   refine wpAnyG_done (by kernel_rfl) (λv hv=>?_)
   have hb:=Below.gr hb hv
   have BX:=Gr.blk hv BX
   have BY:=Gr.blk hv BY
   have BW:=Gr.blk hv BW
   clear hv pc pf
   go_wp2
   refine ⟨⟨hb,BX,BY,Lib.hid (.inr (.inr (.inl (⟨rfl,rfl,BW⟩))))⟩,by decide⟩
  ·clear HI
   have px:wr.cell? ⟨w.heap.size,2,none⟩=some (.int .u64 (x2:Int)):=BX.cell 2
   have py:wr.cell? ⟨w.heap.size+1,2,none⟩=some (.int .u64 (y2:Int)):=BY.cell 2
   go_wp2
   refine wp_region_G (λj=>j == 13) (by kernel_rfl) ?_
   try simp only [Act.put]
   refine tk 0 rfl ?_
   try simp only [Act.put,aA,aZ,aS]
   refine tk 1 rfl ?_
   try simp only [Act.put,aA,aZ,aS]
   refine tk 2 rfl ?_
   try simp only [Act.put,aA,aZ,aS]
   refine tkw 3 rfl (YieldsG.pure (v:=.int .u64 (x2:Int)) (by rfl) (λw9 h9=>by have hz:=(Below.cell (p:=⟨w.heap.size,2,none⟩) h9 lX).trans px; go_simp; first | done | simp [hz])) ?_
   try simp only [Act.put,aA,aZ,aS]
   refine tk 4 rfl ?_
   try simp only [Act.put,aA,aZ,aS]
   refine tk 5 rfl ?_
   try simp only [Act.put,aA,aZ,aS]
   refine tkw 6 rfl (YieldsG.pure (v:=.int .u64 (y2:Int)) (by rfl) (λw9 h9=>by have hz:=(Below.cell (p:=⟨w.heap.size+1,2,none⟩) h9 lY).trans py; go_simp; first | done | simp [hz])) ?_
   try simp only [Act.put,aA,aZ,aS]
   refine tk 7 rfl ?_
   try simp only [Act.put,aA,aZ,aS]
   refine tkw 8 rfl (YieldsG.pure (v:=.tuple #[.int .u64 (s2:Int),.int .u64 (c2:Int)]) (by rfl) (λw9 h9=>by go_simp)) ?_
   try simp only [Act.put,aA,aZ,aS]
   refine tk 9 rfl ?_
   try simp only [Act.put,aA,aZ,aS]
   refine tk 10 rfl ?_
   try simp only [Act.put,aA,aZ,aS]
   refine wpAnyG_takeA 11 rfl (by kernel_rfl) (λ_ _ _ h=>h) (λ_=>YieldsG.pure (by rfl) (λw9 _=>by go_simp; try with_reducible rfl)) ?_
   try simp only [Act.put,aA,aZ,aS]
   refine tk 12 rfl ?_
   try simp only [Act.put,aA,aZ,aS]
   refine wpAnyG_sole 13 rfl (by kernel_rfl) (by rfl) (λu hu K hK=>?_)
   have BX:=Gr.blk hu BX
   have BY:=Gr.blk hu BY
   have BW:=Gr.blk hu BW
   have hb:=Below.gr hb hu
   have pc:u.cell? ⟨w.heap.size+2,2,none⟩=some (.int .u64 0):=BW.cell 2
   have pf:=BW.frozen 2
   clear hu px py
   go_simp
   refine hK _ _ (λe=>by cases e) ?_
   clear hK K
   have hb:=hb.setCell (p:=⟨w.heap.size+2,2,none⟩) (by show w.heap.size≤w.heap.size+2; omega) (.int .u64 (s2:Int))
   have BX:=BX.far (p:=⟨w.heap.size+2,2,none⟩) (by show w.heap.size≠w.heap.size+2; omega) (.int .u64 (s2:Int))
   have BY:=BY.far (p:=⟨w.heap.size+2,2,none⟩) (by show w.heap.size+1≠w.heap.size+2; omega) (.int .u64 (s2:Int))
   have BW:=BW.set_ 2 (.int .u64 (s2:Int))
   refine wpAnyG_takeA 14 rfl (by kernel_rfl) (λ_ _ _ h=>h) (λ_=>YieldsG.pure (by rfl) (λw9 _=>by go_simp; try with_reducible rfl)) ?_
   try simp only [Act.put,aA,aZ,aS]
   refine wpAnyG_done (by kernel_rfl) (λv hv=>?_)
   have hb:=Below.gr hb hv
   have BX:=Gr.blk hv BX
   have BY:=Gr.blk hv BY
   have BW:=Gr.blk hv BW
   clear hv pc pf
   go_wp2
   refine ⟨⟨hb,BX,BY,Lib.hid (.inr (.inr (.inr (.inl (⟨rfl,rfl,BW⟩)))))⟩,by decide⟩
  ·clear HI
   have px:wr.cell? ⟨w.heap.size,3,none⟩=some (.int .u64 (x3:Int)):=BX.cell 3
   have py:wr.cell? ⟨w.heap.size+1,3,none⟩=some (.int .u64 (y3:Int)):=BY.cell 3
   go_wp2
   refine wp_region_G (λj=>j == 13) (by kernel_rfl) ?_
   try simp only [Act.put]
   refine tk 0 rfl ?_
   try simp only [Act.put,aA,aZ,aS]
   refine tk 1 rfl ?_
   try simp only [Act.put,aA,aZ,aS]
   refine tk 2 rfl ?_
   try simp only [Act.put,aA,aZ,aS]
   refine tkw 3 rfl (YieldsG.pure (v:=.int .u64 (x3:Int)) (by rfl) (λw9 h9=>by have hz:=(Below.cell (p:=⟨w.heap.size,3,none⟩) h9 lX).trans px; go_simp; first | done | simp [hz])) ?_
   try simp only [Act.put,aA,aZ,aS]
   refine tk 4 rfl ?_
   try simp only [Act.put,aA,aZ,aS]
   refine tk 5 rfl ?_
   try simp only [Act.put,aA,aZ,aS]
   refine tkw 6 rfl (YieldsG.pure (v:=.int .u64 (y3:Int)) (by rfl) (λw9 h9=>by have hz:=(Below.cell (p:=⟨w.heap.size+1,3,none⟩) h9 lY).trans py; go_simp; first | done | simp [hz])) ?_
   try simp only [Act.put,aA,aZ,aS]
   refine tk 7 rfl ?_
   try simp only [Act.put,aA,aZ,aS]
   refine tkw 8 rfl (YieldsG.pure (v:=.tuple #[.int .u64 (s3:Int),.int .u64 (c3:Int)]) (by rfl) (λw9 h9=>by go_simp)) ?_
   try simp only [Act.put,aA,aZ,aS]
   refine tk 9 rfl ?_
   try simp only [Act.put,aA,aZ,aS]
   refine tk 10 rfl ?_
   try simp only [Act.put,aA,aZ,aS]
   refine wpAnyG_takeA 11 rfl (by kernel_rfl) (λ_ _ _ h=>h) (λ_=>YieldsG.pure (by rfl) (λw9 _=>by go_simp; try with_reducible rfl)) ?_
   try simp only [Act.put,aA,aZ,aS]
   refine tk 12 rfl ?_
   try simp only [Act.put,aA,aZ,aS]
   refine wpAnyG_sole 13 rfl (by kernel_rfl) (by rfl) (λu hu K hK=>?_)
   have BX:=Gr.blk hu BX
   have BY:=Gr.blk hu BY
   have BW:=Gr.blk hu BW
   have hb:=Below.gr hb hu
   have pc:u.cell? ⟨w.heap.size+2,3,none⟩=some (.int .u64 0):=BW.cell 3
   have pf:=BW.frozen 3
   clear hu px py
   go_simp
   refine hK _ _ (λe=>by cases e) ?_
   clear hK K
   have hb:=hb.setCell (p:=⟨w.heap.size+2,3,none⟩) (by show w.heap.size≤w.heap.size+2; omega) (.int .u64 (s3:Int))
   have BX:=BX.far (p:=⟨w.heap.size+2,3,none⟩) (by show w.heap.size≠w.heap.size+2; omega) (.int .u64 (s3:Int))
   have BY:=BY.far (p:=⟨w.heap.size+2,3,none⟩) (by show w.heap.size+1≠w.heap.size+2; omega) (.int .u64 (s3:Int))
   have BW:=BW.set_ 3 (.int .u64 (s3:Int))
   refine wpAnyG_takeA 14 rfl (by kernel_rfl) (λ_ _ _ h=>h) (λ_=>YieldsG.pure (by rfl) (λw9 _=>by go_simp; try with_reducible rfl)) ?_
   try simp only [Act.put,aA,aZ,aS]
   refine wpAnyG_done (by kernel_rfl) (λv hv=>?_)
   have hb:=Below.gr hb hv
   have BX:=Gr.blk hv BX
   have BY:=Gr.blk hv BY
   have BW:=Gr.blk hv BW
   clear hv pc pf
   go_wp2
   refine ⟨⟨hb,BX,BY,Lib.hid (.inr (.inr (.inr (.inr (⟨rfl,rfl,BW⟩)))))⟩,by decide⟩
  ·clear HI
   obtain ⟨s,hsd⟩:∃ s,s=s0+18446744073709551616*s1+340282366920938463463374607431768211456*s2+6277101735386680763835789423207666416102355444464034512896*s3:=⟨_,rfl⟩
   have hf:=hs.out
   have hl:=hlt.out
   have hn:=HF.out
   rw [← hsd] at hf hl hn
   have BS:=BW.eq_ (fcs_words hf.symm).symm
   have HS:=Lib.hid (And.intro hl hn)
   clear hf hl hn hsd
   go_wp2_with (first | ((with_reducible refine here_load (d:=some 24) ?_); refine wpList_load_fv rfl _ _ rfl (w.heap.size+2) rfl (s) _ _ _ (BS) (fv_fcs s) Tryz.underlying143 rfl (by kernel_rfl) ?_) | ((with_reducible refine here_store ?_); refine wpList_store_blk rfl _ _ _ rfl (w.heap.size+2) (fcs (s)) rfl rfl _ _ (BS) (by kernel_rfl) (by rfl) (fcs_one _) ?_; intro w9 hL9 hB9 hK9))
   exact bodyPost_ret (res_cell_tmp rfl _ _ (w.heap.size+2) _ _ _ _ rfl hL9 rfl Tryz.underlying143 rfl (by kernel_rfl)) rfl ⟨⟨s,c3,HS.out.1,HK.out,HS.out.2,rfl⟩,hb.trans (hB9 _ (by omega))⟩
theorem minus_fv (w:World) (x y s k:Nat) (hx:x<(2^256)) (hy:y<(2^256)) (hs:s<(2^256)) (he:s+y=x+(2^256)*k) :
  Calls Tryz.prog 264 #[fv x,fv y] w λe w'=>e=.returned (.tuple #[fv s,.int .u64 (k:Int)])∧Below w.heap.size w w':=by
 refine (minus_any w x y hx hy).mono ?_
 rintro e w' ⟨⟨s',k',hs',hk',he',rfl⟩,hb⟩
 obtain rfl:k'=k:=by omega
 obtain rfl:s'=s:=by omega
 exact ⟨rfl,hb⟩
theorem order_at (w:World) (p:Nat) (hp:p=115792089237316195423570985008687907852837564279074904382605163141518161494337):Calls Tryz.prog 265 #[] w λe w'=>e=.returned (fv p)∧Below w.heap.size w w':=by
 subst hp; exact order_any w
set_option maxHeartbeats 2000000 in
set_option maxRecDepth 100000 in
theorem reduce_at (w:World) (x k z:Nat) (dk:Int) (hdk:dk=(k:Int)) (hx:x<(2^256)) (hk:k≤1) (h2:x+(2^256)*k<115792089237316195423570985008687907852837564279074904382605163141518161494337+115792089237316195423570985008687907852837564279074904382605163141518161494337) (hz:z=(x+(2^256)*k)%pM):Calls Tryz.prog 236 #[fv x,.int .u64 dk] w λe w'=>e=.returned (fv z)∧Below w.heap.size w w':=by
 subst hdk
 obtain ⟨p,hp⟩:∃ p,p=115792089237316195423570985008687907852837564279074904382605163141518161494337:=⟨_,rfl⟩
 rw [pM_eq, ← hp] at hz
 rw [← hp] at h2
 have hpl:p<(2^256):=by omega
 obtain ⟨s,b,hs,hb,he⟩:∃ s b:Nat,s<(2^256)∧b≤1∧s+p=x+(2^256)*b:=by
  by_cases h:p≤x
  ·exact ⟨x - p,0,by omega,by omega,by omega⟩
  ·exact ⟨x+(2^256) - p,1,by omega,by omega,by omega⟩
 have cm:=λw=>minus_fv w x p s b hx hpl hs he
 have co:=λw=>order_at w p hp
 have t1:b>k→z=x:=λh=>by
  obtain rfl:k=0:=by omega
  rw [hz,Nat.mod_eq_of_lt (by omega)]; omega
 have t2:¬ b>k→z=s:=λh=>by
  rw [hz,Nat.mod_eq_sub_mod (by omega),Nat.mod_eq_of_lt (by omega)]
  rcases (show k=0∨k=1 by omega) with rfl | rfl <;> omega
 obtain ⟨x0,x1,x2,x3,fx⟩:=words_fv x hx
 have FX:=Lib.hid fx
 rw [fx]
 clear fx hx hz hp h2 hpl hs hb he hk
 go_enter Tryz.func236,Tryz.ntmps236
 go_wp2
 refine wp_region_G (λj=>j == 7) (by kernel_rfl) ?_
 try simp only [Act.put]
 refine tkw 0 rfl (YieldsG.loadF (by rfl) _ _ rfl (w.heap.size) rfl (x) _ _ ((Blk.new w _ _).alloc _) (FX.out) Tryz.underlying143 rfl (by kernel_rfl)) ?_
 try simp only [Act.put,aA,aZ,aS]
 refine tkw 1 rfl (YieldsG.call (v:=fv p) (by rfl) 265 _ (λw9=>by go_simp; try (first | with_reducible rfl | rfl)) (λw9 h9=>co w9)) ?_
 try simp only [Act.put,aA,aZ,aS]
 refine tkw 2 rfl (YieldsG.call (v:=.tuple #[fv s,.int .u64 (b:Int)]) (by rfl) 264 _ (λw9=>by go_simp; try (first | with_reducible rfl | rfl)) (λw9 h9=>cm w9)) ?_
 try simp only [Act.put,aA,aZ,aS]
 refine tk 3 rfl ?_
 try simp only [Act.put,aA,aZ,aS]
 refine tk 4 rfl ?_
 try simp only [Act.put,aA,aZ,aS]
 refine wpAnyG_takeA 5 rfl (by kernel_rfl) (λ_ _ _ h=>h) (λ_=>YieldsG.pure (by rfl) (λw9 _=>by go_simp; try with_reducible rfl)) ?_
 try simp only [Act.put,aA,aZ,aS]
 refine wpAnyG_sole 6 rfl (by kernel_rfl) (by rfl) (λw3 h3 K hK=>?_)
 go_simp
 refine hK _ _ (λ_=>gr_alloc _ _) ?_
 clear hK K
 try simp only [Act.put,aA,aZ,aS]
 refine wpAnyG_store 7 rfl (by kernel_rfl) (by rfl) _ _ _ rfl (w3.heap.size) (fcs (s)) rfl rfl _ _ (Blk.new w3 _ _) (by kernel_rfl) (by rfl) (fcs_one _) rfl (λw6 h6 w7 hB7 hL7=>?_)
 try simp only [Act.put]
 refine wpAnyG_takeA 8 rfl (by kernel_rfl) (λ_ _ _ h=>h) (λ_=>YieldsG.pure (by rfl) (λw9 _=>by go_simp; try with_reducible rfl)) ?_
 try simp only [Act.put,aA,aZ,aS]
 refine wpAnyG_done (by kernel_rfl) (λw8 h8=>?_)
 have BS:=Gr.blk h8 hL7
 have hsz:w.heap.size+2≤w3.heap.size:=by have:=h3.size; simp at this; omega
 have BX:Blk w8 w.heap.size 143 _:=Gr.blk h8 (Blk.below (B:=w3.heap.size) (Gr.blk h6 (Blk.alloc (Gr.blk h3 ((Blk.new w _ _).alloc _)) _)) (hB7 _ (Nat.le_refl _)) (by omega))
 have BR:Blk w8 (w.heap.size+1) 143 _:=Gr.blk h8 (Blk.below (B:=w3.heap.size) (Gr.blk h6 (Blk.alloc (Gr.blk h3 (blk_new2 w _ _ _)) _)) (hB7 _ (Nat.le_refl _)) (by omega))
 have hB:Below w.heap.size w w8:=Below.gr ((Below.gr ((Below.gr (below_alloc2 w _ _) h3).alloc (by omega) _) h6).trans (hB7 _ (by omega))) h8
 clear h3 h6 hB7 hL7 h8 cm co
 by_cases hbk:b>k
 ·have HZ:=Lib.hid (t1 hbk)
  have p0:(b:Int)>(k:Int):=by omega
  clear t1 t2 hbk
  go_wp2_with (first | ((with_reducible refine here_load (d:=some 16) ?_); refine wpList_load_fv rfl _ _ rfl (w.heap.size) rfl (x) _ _ _ (BX) (FX.out) Tryz.underlying143 rfl (by kernel_rfl) ?_) | ((with_reducible refine here_store ?_); refine wpList_store_blk rfl _ _ _ rfl (w.heap.size+1) (fcs (x)) rfl rfl _ _ (BR) (by kernel_rfl) (by rfl) (fcs_one _) ?_; intro w9 hL9 hB9 hK9))
  exact bodyPost_ret (results_cell_row rfl _ _ (w.heap.size+1) _ _ (0,0) _ rfl hL9 Tryz.underlying143 rfl (by kernel_rfl)) rfl ⟨by rw [HZ.out]; rfl,hB.trans (hB9 _ (by omega))⟩
 ·have HZ:=Lib.hid (t2 hbk)
  have p0:¬ (b:Int)>(k:Int):=by omega
  clear t1 t2 hbk
  go_wp2_with (first | ((with_reducible refine here_load (d:=some 17) ?_); refine wpList_load_fv rfl _ _ rfl (w3.heap.size) rfl (s) _ _ _ (BS) (fv_fcs s) Tryz.underlying143 rfl (by kernel_rfl) ?_) | ((with_reducible refine here_store ?_); refine wpList_store_blk rfl _ _ _ rfl (w.heap.size+1) (fcs (s)) rfl rfl _ _ (BR) (by kernel_rfl) (by rfl) (fcs_one _) ?_; intro w9 hL9 hB9 hK9))
  exact bodyPost_ret (results_cell_row rfl _ _ (w.heap.size+1) _ _ (0,0) _ rfl hL9 Tryz.underlying143 rfl (by kernel_rfl)) rfl ⟨by rw [HZ.out]; rfl,hB.trans (hB9 _ (by omega))⟩
set_option maxHeartbeats 1000000 in
theorem norm_any (w:World) (x:Nat) (hx:x<(2^256)):Calls Tryz.prog 204 #[fv x] w λe w'=>e=.returned (fv (x%pM))∧Below w.heap.size w w':=by
 obtain ⟨z,hz⟩:∃ z,z=x%pM:=⟨_,rfl⟩
 have cr:=λw=>reduce_at w x 0 z 0 rfl hx (by omega) (by omega) (by rw [hz]; rfl)
 obtain ⟨x0,x1,x2,x3,fx⟩:=words_fv x hx
 have FX:=Lib.hid fx
 rw [fx] at cr ⊢
 rw [← hz]
 clear fx hx hz
 go_enter Tryz.func204,Tryz.ntmps204
 go_wp2_with fail
 refine (cr _).mono ?_
 rintro e w1 ⟨rfl,hb1⟩
 have hg:=Below.gr (below_alloc2 w _ _) hb1
 have hR:Blk w1 (w.heap.size+1) 143 _:=Gr.blk hb1 (blk_new2 w _ _ _)
 go_wp2_with (first | ((with_reducible refine here_store ?_); refine wpList_store_blk rfl _ _ _ rfl (w.heap.size+1) (fcs (z)) rfl rfl _ _ (hR) (by kernel_rfl) (by rfl) (fcs_one _) ?_; intro w4 hL hB4 hK4))
 exact bodyPost_ret (results_cell_row rfl _ _ (w.heap.size+1) _ _ (0,0) _ rfl hL Tryz.underlying143 rfl (by kernel_rfl)) rfl ⟨rfl,hg.trans (hB4 _ (by omega))⟩
set_option maxHeartbeats 8000000 in
set_option maxRecDepth 100000 in
theorem bytes_any (w:World) (x:Nat) (hx:x<(2^256)):Calls Tryz.prog 205 #[fv x] w λe w'=>e=.returned (.agg ((bytesS (x%pM)).map bv).toArray)∧Below w.heap.size w w':=by
 obtain ⟨z,hz⟩:∃ z,z=x%pM:=⟨_,rfl⟩
 have hzl:z<(2^256):=by rw [hz]; exact mod_lt x
 have cn:∀ w,Calls Tryz.prog 204 #[fv x] w λe w'=>e=.returned (fv z)∧Below w.heap.size w w':=by
  intro w; rw [hz]; exact norm_any w x hx
 rw [← hz]
 obtain ⟨z0,z1,z2,z3,a0,a1,a2,a3,ez,fz⟩:=words_of z hzl
 have HZ:=Lib.hid (And.intro a0 (And.intro a1 (And.intro a2 (And.intro a3 ez))))
 have FZ:=Lib.hid fz
 obtain ⟨x0,x1,x2,x3,fx⟩:=words_fv x hx
 rw [fx] at cn ⊢
 clear fx fz hz hzl a0 a1 a2 a3 ez hx
 have hZB:Hid ((List.replicate 32 (Value.int .u8 0)).toArray=((partB z 0).map bv).toArray):=Lib.hid (by simp [partB,lowB,bv])
 go_enter Tryz.func205,Tryz.ntmps205
 go_wp2_with fail
 refine (cn _).mono ?_
 rintro e w1 ⟨rfl,hb⟩
 have BR:Blk w1 (w.heap.size+1) 36 _:=Gr.blk hb (Blk.alloc (blk_new2 w _ _ _) _)
 have BB:Blk w1 (w.heap.size+2) 36 ((partB z 0).map bv).toArray:=Blk.eq_ (Gr.blk hb (blk_new3 w _ _ _ _)) hZB.out
 have hB:=Below.gr (below_alloc3 w _ _ _) hb
 have sz:=BB.lt
 clear hb cn
 go_wp2_with (first | ((with_reducible refine here_store ?_); refine wpList_store_blk rfl _ _ _ rfl (w1.heap.size) (fcs (z)) rfl rfl _ _ (Blk.new w1 _ _) (by kernel_rfl) (by rfl) (fcs_one _) ?_; intro w2 hL2 hB2 hK2; have CR:=hK2 _ (by omega) _ _ (BR.alloc _); have CB:=hK2 _ (by omega) _ _ (BB.alloc _); have hC:=(hB.alloc (by omega) _).trans (hB2 _ (by omega))))
 go_loopw [8] (λi wr=>∃ k:Nat,k≤32∧i=.int .i64 (k:Int)∧Below w.heap.size w wr∧Blk wr (w.heap.size+2) 36 ((partB z k).map bv).toArray∧Blk wr w1.heap.size 143 #[.int .u64 (z0:Int),.int .u64 (z1:Int),.int .u64 (z2:Int),.int .u64 (z3:Int)]∧Blk wr (w.heap.size+1) 36 (List.replicate 32 (Value.int .u8 0)).toArray) (λi _=>32 - (intOf i).toNat)
 case atStart=>exact ⟨0,by omega,rfl,hC,CB,hL2.eq_ (fcs_words FZ.out),CR⟩
 case round =>
  obtain ⟨k,hk,rfl,hb,hP,hN,hR⟩:=hrel
  by_cases hlt:k<32
  ·have ce:∀ j,j<32→∃ v,wr.cell? ⟨w.heap.size+1+1,j,none⟩=some v:=λj hj=>⟨_,(hP.cell j).trans (Array.getElem?_eq_getElem (by simp [partB_length z k hk]; exact hj))⟩
   obtain ⟨v,hv⟩:=ce (31 - k) (by omega)
   have ff:=hP.frozen (31 - k)
   have q0:wr.cell? ⟨w1.heap.size,0,none⟩=some (.int .u64 (z0:Int)):=hN.cell 0
   have q1:wr.cell? ⟨w1.heap.size,1,none⟩=some (.int .u64 (z1:Int)):=hN.cell 1
   have q2:wr.cell? ⟨w1.heap.size,2,none⟩=some (.int .u64 (z2:Int)):=hN.cell 2
   have q3:wr.cell? ⟨w1.heap.size,3,none⟩=some (.int .u64 (z3:Int)):=hN.cell 3
   have hPn:=hP.set_ (31 - k) (bv (byteN z k))
   rw [partB_set z k hlt] at hPn
   have HP:=Lib.hid hPn
   clear hPn ce
   have HR:=Lib.hid (And.intro hb (And.intro hN hR))
   clear hb hP hN hR hk
   have hsz:w.heap.size+2<w1.heap.size:=sz
   rcases (show k=0∨k=1∨k=2∨k=3∨k=4∨k=5∨k=6∨k=7∨k=8∨k=9∨k=10∨k=11∨k=12∨k=13∨k=14∨k=15∨k=16∨k=17∨k=18∨k=19∨k=20∨k=21∨k=22∨k=23∨k=24∨k=25∨k=26∨k=27∨k=28∨k=29∨k=30∨k=31 by omega) with rfl | rfl | rfl | rfl | rfl | rfl | rfl | rfl | rfl | rfl | rfl | rfl | rfl | rfl | rfl | rfl | rfl | rfl | rfl | rfl | rfl | rfl | rfl | rfl | rfl | rfl | rfl | rfl | rfl | rfl | rfl | rfl
   all_goals
    go_wp2
    obtain ⟨a0,a1,a2,a3,ez⟩:=HZ.out
    refine ⟨⟨_,by decide,rfl,HR.out.1.setCell (by show w.heap.size≤w.heap.size+1+1; omega) _,HP.out.val (by rw [bv_byteN]; congr 1; omega),HR.out.2.1.far (by show w1.heap.size≠w.heap.size+1+1; omega) _,HR.out.2.2.far (by show w.heap.size+1≠w.heap.size+1+1; omega) _⟩,by simp [intOf]⟩
  ·have p1:¬ (k:Int)<32:=by omega
   obtain rfl:k=32:=by omega
   rw [partB_full] at hP
   have HI:=Lib.hid (bytesS_length z)
   have HL:=Lib.hid hP
   have HR:=Lib.hid hR
   clear hN hP hR
   go_wp2_with (first | ((with_reducible refine here_load (d:=some 24) ?_); refine wpList_load_blk rfl _ _ rfl (w.heap.size+2) rfl _ _ _ HL.out Tryz.underlying36 rfl (b32_info HI.out) ?_) | ((with_reducible refine here_store ?_); refine wpList_store_blk rfl _ _ _ rfl (w.heap.size+1) ((bytesS z).map bv).toArray rfl rfl _ _ HR.out (b32_info HI.out) (by simp [HI.out]) (b32_one _) ?_; intro w9 hL9 hB9 hK9))
   exact bodyPost_ret (results_cell_row rfl _ _ (w.heap.size+1) _ _ (0,0) _ rfl hL9 Tryz.underlying36 rfl (b32_info HI.out)) rfl ⟨rfl,hb.trans (hB9 _ (by omega))⟩
end Sc
end
section
namespace Sc
open Go.RowKit Go.Lib
end Sc
end
section
namespace Sc
open Go.RowKit Go.Lib
set_option maxRecDepth 100000
end Sc
end
section
namespace Sc
open Go.RowKit Go.Lib
theorem run_equalIn_fv (W:World) (n m:Nat) (hn:n<(2^256)) (hm:m<(2^256)):(Op.equalIn 10000 143 (fv n) (fv m)).run Tryz.prog W=.ok (decide (n=m)) W:=by
 rw [fv_wl,fv_wl]
 have h:=run_equalIn_words W 9998 143 22 4 Tryz.underlying143 Tryz.underlying22 (λW=>by kernel_rfl) (wl n) (wl m) rfl rfl
 rw [wl_beq hn hm] at h
 exact h
theorem run_eql_fv (W:World) (n m:Nat) (hn:n<(2^256)) (hm:m<(2^256)):(binOp .eql 143 (fv n) (fv m)).run Tryz.prog W=.ok (.bool (decide (n=m))) W:=by
 have h:=run_equalIn_fv W n m hn hm
 rw [fv_wl,fv_wl] at h ⊢
 rw [run_eql_struct,h]
 rfl
theorem run_neq_fv (W:World) (n m:Nat) (hn:n<(2^256)) (hm:m<(2^256)):(binOp .neq 143 (fv n) (fv m)).run Tryz.prog W=.ok (.bool (decide (n≠m))) W:=by
 have h:=run_equalIn_fv W n m hn hm
 rw [fv_wl,fv_wl] at h ⊢
 rw [run_neq_struct,h]
 by_cases e:n=m <;> simp [e]
theorem run_eqGuard_fv (op:BinOp) (x y:Operand) (n m:Nat) (W:World):(eqGuard op 143 x y (fv n) (fv m)).run Tryz.prog W=.ok () W:=by
 rw [fv_fcs,fv_fcs]
 go_simp
end Sc
end
section
namespace Sc
open Go.RowKit Go.Lib
set_option maxHeartbeats 8000000 in
set_option maxRecDepth 100000 in
theorem words_any (w:World) (l:List UInt8) (hl:l.length=32):Calls Tryz.prog 237 #[.agg (l.map bv).toArray] w λe w'=>e=.returned (fv (valB l))∧Below w.heap.size w w':=by
 have HL:=Lib.hid hl
 clear hl
 go_enter Tryz.func237,Tryz.ntmps237
 go_wp2_with (first | ((with_reducible refine here_load (d:=some 6) ?_); refine wpList_load_blk rfl _ _ rfl w.heap.size rfl _ _ _ (((Blk.new w _ _).alloc _).alloc _) Tryz.underlying36 rfl (b32_info HL.out) ?_))
 go_loopw [7] (λi wr=>∃ k y0 y1 y2 y3:Nat,k≤32∧i=.int .i64 (k:Int)∧Hid (y0=wdB l k 0∧y1=wdB l k 1∧y2=wdB l k 2∧y3=wdB l k 3)∧Below w.heap.size w wr∧Blk wr (w.heap.size+2) 143 #[.int .u64 (y3:Int),.int .u64 (y2:Int),.int .u64 (y1:Int),.int .u64 (y0:Int)]∧Blk wr (w.heap.size+1) 143 #[.int .u64 0,.int .u64 0,.int .u64 0,.int .u64 0]) (λi _=>32 - (intOf i).toNat)
 case atStart=>exact ⟨0,0,0,0,0,by omega,rfl,Lib.hid ⟨(wdB_zero l 0).symm,(wdB_zero l 1).symm,(wdB_zero l 2).symm,(wdB_zero l 3).symm⟩,below_alloc3 w _ _ _,blk_new3 w _ _ _ _,(blk_new2 w _ _ _).alloc _⟩
 case round =>
  obtain ⟨k,y0,y1,y2,y3,hk,rfl,HY,hb,hP,hR⟩:=hrel
  have q3:wr.cell? ⟨w.heap.size+1+1,0,none⟩=some (.int .u64 (y3:Int)):=hP.cell 0
  have q2:wr.cell? ⟨w.heap.size+1+1,1,none⟩=some (.int .u64 (y2:Int)):=hP.cell 1
  have q1:wr.cell? ⟨w.heap.size+1+1,2,none⟩=some (.int .u64 (y1:Int)):=hP.cell 2
  have q0:wr.cell? ⟨w.heap.size+1+1,3,none⟩=some (.int .u64 (y0:Int)):=hP.cell 3
  have ff:∀ j,wr.frozen? ⟨w.heap.size+1+1,j,none⟩=false:=λj=>hP.frozen j
  by_cases hlt:k<32
  ·obtain ⟨c,hc⟩:∃ c,l[k]? = some c:=⟨l[k]'(by rw [HL.out]; exact hlt),List.getElem?_eq_getElem _⟩
   have HC:=Lib.hid hc
   obtain ⟨m,hm⟩:∃ m,m=c.toNat:=⟨_,rfl⟩
   have hm8:m<256:=by rw [hm]; exact c.toNat_lt
   have hI:∀ W,(Instr.index 36 (.agg (l.map bv).toArray) (.int .i64 (k:Int))).run Tryz.prog W=.ok (.int .u8 (m:Int)) W:=λW=>by
    rw [run_index_b32 W l k c hc hlt,hm]; rfl
   have HM:=Lib.hid hm
   have HR:=Lib.hid (And.intro hb (And.intro hP hR))
   clear hb hP hR hc hk hm
   rcases (show k=0∨k=1∨k=2∨k=3∨k=4∨k=5∨k=6∨k=7∨k=8∨k=9∨k=10∨k=11∨k=12∨k=13∨k=14∨k=15∨k=16∨k=17∨k=18∨k=19∨k=20∨k=21∨k=22∨k=23∨k=24∨k=25∨k=26∨k=27∨k=28∨k=29∨k=30∨k=31 by omega) with rfl | rfl | rfl | rfl | rfl | rfl | rfl | rfl | rfl | rfl | rfl | rfl | rfl | rfl | rfl | rfl | rfl | rfl | rfl | rfl | rfl | rfl | rfl | rfl | rfl | rfl | rfl | rfl | rfl | rfl | rfl | rfl
   all_goals
    simp only [Int.cast_ofNat_Int] at hI
   all_goals
    first
    | ((have hy:y0<72057594037927936:=by rw [HY.out.1]; exact wdB_lt l _ 0 (by decide)); (have ho:=or_add y0 m hy hm8); go_wp2; (refine ⟨⟨_,y0*256+m,y1,y2,y3,by decide,rfl,Lib.hid ⟨by rw [HY.out.1,HM.out]; exact (wdB_step l _ 0 c HC.out (by decide)).symm,by rw [HY.out.2.1]; exact (wdB_same l _ 1 (by decide)).symm,by rw [HY.out.2.2.1]; exact (wdB_same l _ 2 (by decide)).symm,by rw [HY.out.2.2.2]; exact (wdB_same l _ 3 (by decide)).symm⟩,HR.out.1.setCell (by show w.heap.size≤w.heap.size+1+1; omega) _,Blk.eq_ (HR.out.2.1.set_ 3 _) (by rw [show ((y0*256+m:Nat):Int)=(y0:Int)*256+(m:Int) by omega]; rfl),HR.out.2.2.far (by show w.heap.size+1≠w.heap.size+1+1; omega) _⟩,by simp [intOf]⟩))
    | ((have hy:y1<72057594037927936:=by rw [HY.out.2.1]; exact wdB_lt l _ 1 (by decide)); (have ho:=or_add y1 m hy hm8); go_wp2; (refine ⟨⟨_,y0,y1*256+m,y2,y3,by decide,rfl,Lib.hid ⟨by rw [HY.out.1]; exact (wdB_same l _ 0 (by decide)).symm,by rw [HY.out.2.1,HM.out]; exact (wdB_step l _ 1 c HC.out (by decide)).symm,by rw [HY.out.2.2.1]; exact (wdB_same l _ 2 (by decide)).symm,by rw [HY.out.2.2.2]; exact (wdB_same l _ 3 (by decide)).symm⟩,HR.out.1.setCell (by show w.heap.size≤w.heap.size+1+1; omega) _,Blk.eq_ (HR.out.2.1.set_ 2 _) (by rw [show ((y1*256+m:Nat):Int)=(y1:Int)*256+(m:Int) by omega]; rfl),HR.out.2.2.far (by show w.heap.size+1≠w.heap.size+1+1; omega) _⟩,by simp [intOf]⟩))
    | ((have hy:y2<72057594037927936:=by rw [HY.out.2.2.1]; exact wdB_lt l _ 2 (by decide)); (have ho:=or_add y2 m hy hm8); go_wp2; (refine ⟨⟨_,y0,y1,y2*256+m,y3,by decide,rfl,Lib.hid ⟨by rw [HY.out.1]; exact (wdB_same l _ 0 (by decide)).symm,by rw [HY.out.2.1]; exact (wdB_same l _ 1 (by decide)).symm,by rw [HY.out.2.2.1,HM.out]; exact (wdB_step l _ 2 c HC.out (by decide)).symm,by rw [HY.out.2.2.2]; exact (wdB_same l _ 3 (by decide)).symm⟩,HR.out.1.setCell (by show w.heap.size≤w.heap.size+1+1; omega) _,Blk.eq_ (HR.out.2.1.set_ 1 _) (by rw [show ((y2*256+m:Nat):Int)=(y2:Int)*256+(m:Int) by omega]; rfl),HR.out.2.2.far (by show w.heap.size+1≠w.heap.size+1+1; omega) _⟩,by simp [intOf]⟩))
    | ((have hy:y3<72057594037927936:=by rw [HY.out.2.2.2]; exact wdB_lt l _ 3 (by decide)); (have ho:=or_add y3 m hy hm8); go_wp2; (refine ⟨⟨_,y0,y1,y2,y3*256+m,by decide,rfl,Lib.hid ⟨by rw [HY.out.1]; exact (wdB_same l _ 0 (by decide)).symm,by rw [HY.out.2.1]; exact (wdB_same l _ 1 (by decide)).symm,by rw [HY.out.2.2.1]; exact (wdB_same l _ 2 (by decide)).symm,by rw [HY.out.2.2.2,HM.out]; exact (wdB_step l _ 3 c HC.out (by decide)).symm⟩,HR.out.1.setCell (by show w.heap.size≤w.heap.size+1+1; omega) _,Blk.eq_ (HR.out.2.1.set_ 0 _) (by rw [show ((y3*256+m:Nat):Int)=(y3:Int)*256+(m:Int) by omega]; rfl),HR.out.2.2.far (by show w.heap.size+1≠w.heap.size+1+1; omega) _⟩,by simp [intOf]⟩))
  ·have p1:¬ (k:Int)<32:=by omega
   obtain rfl:k=32:=by omega
   have b0:y0<18446744073709551616:=by rw [HY.out.1]; exact wdB_lt8 l _ _
   have b1:y1<18446744073709551616:=by rw [HY.out.2.1]; exact wdB_lt8 l _ _
   have b2:y2<18446744073709551616:=by rw [HY.out.2.2.1]; exact wdB_lt8 l _ _
   have b3:y3<18446744073709551616:=by rw [HY.out.2.2.2]; exact wdB_lt8 l _ _
   obtain ⟨z,hz⟩:∃ z,z=y3+18446744073709551616*y2+340282366920938463463374607431768211456*y1+6277101735386680763835789423207666416102355444464034512896*y0:=⟨_,rfl⟩
   have fz:=fv_mk y3 y2 y1 y0 b3 b2 b1 b0
   rw [← hz] at fz
   have hzv:valB l=z:=by rw [wdB_all l HL.out,hz,HY.out.1,HY.out.2.1,HY.out.2.2.1,HY.out.2.2.2]
   have HZ:=Lib.hid hzv
   have FZ:=Lib.hid fz.symm
   have HP:=Lib.hid hP
   have HR:=Lib.hid hR
   clear HY b0 b1 b2 b3 hz fz hzv q0 q1 q2 q3 ff hP hR
   go_wp2_with (first | ((with_reducible refine here_load (d:=some 25) ?_); refine wpList_load_fv rfl _ _ rfl (w.heap.size+2) rfl (z) _ _ _ (HP.out) (FZ.out) Tryz.underlying143 rfl (by kernel_rfl) ?_) | ((with_reducible refine here_store ?_); refine wpList_store_blk rfl _ _ _ rfl (w.heap.size+1) (fcs (z)) rfl rfl _ _ (HR.out) (by kernel_rfl) (by rfl) (fcs_one _) ?_; intro vz hLz hqz hKz))
   exact bodyPost_ret (results_cell_row rfl _ _ (w.heap.size+1) _ _ (0,0) _ rfl hLz Tryz.underlying143 rfl (by kernel_rfl)) rfl ⟨by rw [HZ.out]; rfl,hb.trans (hqz _ (by omega))⟩
def readS (l:List UInt8):Nat×Bool:=if valB l<pM then (valB l,true) else (0,false)
set_option maxHeartbeats 2000000 in
set_option maxRecDepth 100000 in
theorem read_any (w:World) (l:List UInt8) (hl:l.length=32):Calls Tryz.prog 206 #[.agg (l.map bv).toArray] w λe w'=>e=.returned (.tuple #[fv (readS l).1,.bool (readS l).2])∧Below w.heap.size w w':=by
 obtain ⟨z,hz⟩:∃ z,z=valB l:=⟨_,rfl⟩
 have hzl:z<(2^256):=by rw [hz]; exact valB_lt32 l hl
 obtain ⟨n,hn⟩:∃ n,n=z%pM:=⟨_,rfl⟩
 have hnl:n<(2^256):=by rw [hn]; exact mod_lt z
 obtain ⟨b,hbd⟩:∃ b,b=decide (n≠z):=⟨_,rfl⟩
 have eb:∀ W,(binOp .neq 143 (fv n) (fv z)).run Tryz.prog W=.ok (.bool b) W:=λW=>by rw [hbd]; exact run_neq_fv W n z hnl hzl
 have cw:∀ w,Calls Tryz.prog 237 #[.agg (l.map bv).toArray] w λe w'=>e=.returned (fv z)∧Below w.heap.size w w':=by
  intro w; rw [hz]; exact words_any w l hl
 have cn:∀ w,Calls Tryz.prog 204 #[fv z] w λe w'=>e=.returned (fv n)∧Below w.heap.size w w':=by
  intro w; rw [hn]; exact norm_any w z hzl
 have hS:readS l=if b=true then (0,false) else (z,true):=by
  unfold readS
  rw [← hz,hbd,hn]
  by_cases h:z<pM
  ·rw [if_pos h,Nat.mod_eq_of_lt h]; simp
  ·have h2:z%pM≠z:=λe=>h (by rw [← e]; exact mod_lt_p z)
   rw [if_neg h]; simp [h2]
 have HS:=Lib.hid hS
 have HL:=Lib.hid hl
 clear hl hz hzl hn hnl hbd hS
 go_enter Tryz.func206,Tryz.ntmps206
 go_wp2_with (first | ((with_reducible refine here_load (d:=some 5) ?_); refine wpList_load_blk rfl _ _ rfl w.heap.size rfl _ _ _ ((Blk.new w _ _).alloc _) Tryz.underlying36 rfl (b32_info HL.out) ?_))
 refine (cw _).mono ?_
 rintro e w1 ⟨rfl,k1⟩
 have BR:=Gr.blk k1 (blk_new2 w _ _ _)
 have sz:=BR.lt
 have hB:=Below.gr (below_alloc2 w _ _) k1
 clear k1 cw
 go_wp2_with (first | ((with_reducible refine here_store ?_); refine wpList_store_blk rfl _ _ _ rfl (w1.heap.size) (fcs (z)) rfl rfl _ _ (Blk.new w1 _ _) (by kernel_rfl) (by rfl) (fcs_one _) ?_; intro w2 hL2 hq2 hK2; have CR:=hK2 _ (by omega) _ _ (BR.alloc _); have hB2:=(hB.alloc (by omega) _).trans (hq2 _ (by omega))))
 refine wp_region_G (λ_=>false) (by kernel_rfl) ?_
 try simp only [Act.put]
 refine tkw 0 rfl (YieldsG.loadF (by rfl) _ _ rfl (w1.heap.size) rfl (z) _ _ (hL2) (fv_fcs _) Tryz.underlying143 rfl (by kernel_rfl)) ?_
 try simp only [Act.put,aA,aZ,aS]
 refine tkw 1 rfl (YieldsG.call (v:=fv n) (by rfl) 204 _ (λw9=>by go_simp; try (first | with_reducible rfl | rfl)) (λw9 h9=>cn w9)) ?_
 try simp only [Act.put,aA,aZ,aS]
 refine tkw 2 rfl (YieldsG.loadF (by rfl) _ _ rfl (w1.heap.size) rfl (z) _ _ (hL2) (fv_fcs _) Tryz.underlying143 rfl (by kernel_rfl)) ?_
 try simp only [Act.put,aA,aZ,aS]
 refine tkw 3 rfl (YieldsG.pure (v:=.bool b) (by rfl) (λw9 h9=>by go_simp; rw [run_eqGuard_fv]; simp only [Result.andThen_ok])) ?_
 try simp only [Act.put,aA,aZ,aS]
 refine wpAnyG_done (by kernel_rfl) (λu hu=>?_)
 have hbu:=Below.gr hB2 hu
 have BRu:=Gr.blk hu CR
 have BP:=Gr.blk hu hL2
 clear hu hB2 CR hL2 eb cn
 cases b
 ·have HT:Hid (readS l=(z,true)):=Lib.hid (by rw [HS.out]; rfl)
  clear HS
  go_wp2_with (first | ((with_reducible refine here_load (d:=some 12) ?_); refine wpList_load_fv rfl _ _ rfl (w1.heap.size) rfl (z) _ _ _ (BP) (fv_fcs _) Tryz.underlying143 rfl (by kernel_rfl) ?_) | ((with_reducible refine here_store ?_); refine wpList_store_blk rfl _ _ _ rfl (w.heap.size+1) (fcs (z)) rfl rfl _ _ (BRu) (by kernel_rfl) (by rfl) (fcs_one _) ?_; intro vz hLz hqz hKz))
  exact bodyPost_ret (res_cell_tmp rfl _ _ (w.heap.size+1) _ _ _ _ rfl hLz rfl Tryz.underlying143 rfl (by kernel_rfl)) rfl ⟨by rw [HT.out]; rfl,hbu.trans (hqz _ (by omega))⟩
 ·have HT:Hid (readS l=(0,false)):=Lib.hid (by rw [HS.out]; rfl)
  clear HS
  go_wp2_with (first | ((with_reducible refine here_store ?_); refine wpList_store_blk rfl _ _ _ rfl (w.heap.size+1) _ rfl rfl _ _ (BRu) (by kernel_rfl) (by rfl) (by simp [Value.oneCell']) ?_; intro vz hLz hqz hKz))
  exact bodyPost_ret (res_cell_tmp rfl _ _ (w.heap.size+1) _ _ _ _ rfl hLz rfl Tryz.underlying143 rfl (by kernel_rfl)) rfl ⟨by rw [HT.out]; rfl,hbu.trans (hqz _ (by omega))⟩
end Sc
end
section
namespace Wr
open Go.RowKit Sy
set_option maxRecDepth 100000
set_option maxHeartbeats 4000000
def okSC (n:Nat):Bool:=decide (n%Sc.pM=n)
def encSC (n:Nat):Byt:=bytesS (n%Sc.pM)
def rdSC:Ps Nat:=bindP (takeP 32) λl=>bindP (mustP (Sc.readS l).2) λ_=>retP (Sc.readS l).1
def repSC (_:Rdr) (cs:List Value) (n:Nat):Prop:=cs=Cu.fws n∧n<Cu.K4
def nulAM (a:MAmt):Bool:=(!a.blind && decide (a.value=0)) && nulPT a.pt
structure MIs where
 kind:Int
 amount:MAmt
 range:Byt
 tokens:Nat
 entropy:Byt
 blind:Nat
def zAM:MAmt:=⟨false,0,⟨0,0,false⟩⟩
def zIS:MIs:=⟨0,zAM,[],0,z32,0⟩
def nulIS (i:MIs):Bool:=nulAM i.amount && (decide (i.range.length=0) && (decide (i.tokens=0) && (decide (i.entropy=z32) && decide (i.blind=0))))
def fulIS (i:MIs):Bool:=okAM i.amount && (decide (i.range.length≤6000) && okSC i.blind)
def okIS (i:MIs):Bool:=if i.kind=0 then nulIS i else if i.kind=1∨i.kind=2 then fulIS i else false
def bodyIS (i:MIs):Byt:=encAM i.amount++(encT i.range++(nb 8 i.tokens++(i.entropy++encSC i.blind)))
def encIS (i:MIs):Byt:=[octB i.kind]++(if i.kind=0 then [] else bodyIS i)
def wtIS (i:MIs):Nat:=1+(34+((9+i.range.length)+(8+(32+32))))
def fulRd (k:Int):Ps MIs:=bindP rdAM λa=>bindP (textP 6000) λr=>bindP (numP 8) λt=>bindP (takeP 32) λe=>bindP rdSC λs=>retP ⟨k,a,r,t,e,s⟩
def rdIS:Ps MIs:=bindP octP λk=>if k=0 then retP zIS else bindP (mustP (decide (k=1∨k=2))) λ_=>fulRd k
def cIS (i:MIs) (vr:Value):List Value:=[.int .i64 i.kind]++(cAM i.amount++([vr]++([.int .u64 (i.tokens:Int)]++(i.entropy.map bv++Cu.fws i.blind))))
def repIS (C:Rdr) (cs:List Value) (i:MIs):Prop:=∃ vr,cs=cIS i vr∧(i.amount.value<18446744073709551616∧i.amount.pt.x<Cu.K4∧i.amount.pt.y<Cu.K4)∧BytR C vr i.range∧i.tokens<18446744073709551616∧i.entropy.length=32∧i.blind<Cu.K4
theorem monoIS:Mono repIS:=λhl ⟨vr,h0,h1,h2,h3,h4,h5⟩=>⟨vr,h0,h1,h2.le hl,h3,h4,h5⟩
theorem fws_len (n:Nat):(Cu.fws n).length=4:=rfl
theorem fws_one (n:Nat):∀ u∈Cu.fws n,u.oneCell'=true:=λu hu=>by
 simp only [Cu.fws,List.mem_cons,List.not_mem_nil,or_false] at hu
 rcases hu with rfl | rfl | rfl | rfl <;> rfl
theorem lenIS {C:Rdr} {cs:List Value} {t:MIs} (h:repIS C cs t):cs.length=50:=by
 obtain ⟨vr,rfl,h1,h2,h3,h4,h5⟩:=h
 simp only [cIS,cAM,List.length_append,List.length_map,h4,fws_len,lPT_len]; rfl
theorem oneIS {C:Rdr} {cs:List Value} {t:MIs} (h:repIS C cs t):∀ u∈cs,u.oneCell'=true:=by
 obtain ⟨vr,rfl,h1,h2,h3,h4,h5⟩:=h
 exact ones_app (λu hu=>by rw [List.mem_singleton.1 hu]; rfl) (ones_app (ones_app (λu hu=>by rw [List.mem_singleton.1 hu]; rfl) (ones_app (λu hu=>by rw [List.mem_singleton.1 hu]; rfl) (lPT_one _))) (ones_app (λu hu=>by rw [List.mem_singleton.1 hu]; exact h2.cells.2) (ones_app (λu hu=>by rw [List.mem_singleton.1 hu]; rfl) (ones_app (ones_bW _) (fws_one _)))))
structure MPg where
 header:Byt
 tx:Byt
 place:Nat
 many:Nat
 path:List Byt
 script:Byt
def zPG:MPg:=⟨z32,[],0,0,[],[]⟩
def nulPG (p:MPg):Bool:=decide (p.header=z32) && (decide (p.tx.length=0) && (decide (p.place=0) && (decide (p.many=0) && (decide (p.path.length=0) && decide (p.script.length=0)))))
def okPG (p:MPg):Bool:=decide (p.tx.length≤1024) && (decide (p.path.length≤32) && decide (p.script.length≤256))
def encPG (p:MPg):Byt:=p.header++(encT p.tx++(nb 4 p.place++(nb 4 p.many++(encL (λd=>d) p.path++encT p.script))))
def wtPG (p:MPg):Nat:=32+((9+p.tx.length)+(4+(4+((9+(p.path.map λ_=>32).sum)+(9+p.script.length)))))
def rdPG:Ps MPg:=bindP (takeP 32) λh=>bindP (textP 1024) λt=>bindP (numP 4) λp=>bindP (numP 4) λm=>bindP (listP 32 (takeP 32)) λl=>bindP (textP 256) λs=>retP ⟨h,t,p,m,l,s⟩
def cPG (p:MPg) (vt vp vs:Value):List Value:=p.header.map bv++([vt]++([.int .u32 (p.place:Int)]++([.int .u32 (p.many:Int)]++([vp]++[vs]))))
def repPG (C:Rdr) (cs:List Value) (p:MPg):Prop:=∃ vt vp vs,cs=cPG p vt vp vs∧p.header.length=32∧BytR C vt p.tx∧p.place<4294967296∧p.many<4294967296∧LstR C 32 repDG vp p.path∧BytR C vs p.script
theorem monoPG:Mono repPG:=λhl ⟨vt,vp,vs,h0,h1,h2,h3,h4,h5,h6⟩=>⟨vt,vp,vs,h0,h1,h2.le hl,h3,h4,LstR.le (rep:=repDG) monoDG hl h5,h6.le hl⟩
theorem lenPG {C:Rdr} {cs:List Value} {t:MPg} (h:repPG C cs t):cs.length=37:=by
 obtain ⟨vt,vp,vs,rfl,h1,_⟩:=h
 simp only [cPG,List.length_append,List.length_map,h1]; rfl
theorem onePG {C:Rdr} {cs:List Value} {t:MPg} (h:repPG C cs t):∀ u∈cs,u.oneCell'=true:=by
 obtain ⟨vt,vp,vs,rfl,h1,h2,h3,h4,h5,h6⟩:=h
 exact ones_app (ones_bW _) (ones_app (λu hu=>by rw [List.mem_singleton.1 hu]; exact h2.cells.2) (ones_app (λu hu=>by rw [List.mem_singleton.1 hu]; rfl) (ones_app (λu hu=>by rw [List.mem_singleton.1 hu]; rfl) (ones_app (λu hu=>by rw [List.mem_singleton.1 hu]; exact h5.cells.2) (λu hu=>by rw [List.mem_singleton.1 hu]; exact h6.cells.2)))))
theorem monoTT:Mono repY:=λhl ⟨v,h0,h1⟩=>⟨v,h0,h1.le hl⟩
def ok256 (x:Byt):Bool:=decide (x.length≤256)
def wtT (x:Byt):Nat:=9+x.length
structure MIn where
 kind:Int
 prev:Byt
 index:Nat
 issue:MIs
 peg:MPg
 wit:List Byt
def okW (l:List Byt):Bool:=decide (l.length≤16) && l.all ok256
def okK2 (k:Int):Bool:=decide (1≤k) && decide (k≤2)
def okIN (i:MIn):Bool:=okK2 i.kind && (okIS i.issue && ((if i.kind=2 then okPG i.peg else nulPG i.peg) && okW i.wit))
def encIN (i:MIn):Byt:=[octB i.kind]++(i.prev++(nb 4 i.index++(encIS i.issue++((if i.kind=2 then encPG i.peg else [])++encL encT i.wit))))
def wtIN (i:MIn):Nat:=1+(36+(wtIS i.issue+(wtPG i.peg+(9+(i.wit.map wtT).sum))))
def rdIN:Ps MIn:=bindP octP λk=>bindP (mustP (okK2 k)) λ_=>bindP (takeP 32) λp=>bindP (numP 4) λx=>bindP rdIS λi=>bindP (if k=2 then rdPG else retP zPG) λg=>bindP (listP 16 (textP 256)) λw=>retP ⟨k,p,x,i,g,w⟩
def repIN (C:Rdr) (cs:List Value) (i:MIn):Prop:=∃ ci cg vw,cs=[.int .i64 i.kind]++((i.prev.map bv++[.int .u32 (i.index:Int)])++(ci++(cg++[vw])))∧i.prev.length=32∧i.index<4294967296∧repIS C ci i.issue∧repPG C cg i.peg∧LstR C 1 repY vw i.wit
theorem monoIN:Mono repIN:=λhl ⟨ci,cg,vw,h0,h1,h2,h3,h4,h5⟩=>⟨ci,cg,vw,h0,h1,h2,monoIS hl h3,monoPG hl h4,LstR.le (rep:=repY) monoTT hl h5⟩
theorem lenIN {C:Rdr} {cs:List Value} {t:MIn} (h:repIN C cs t):cs.length=122:=by
 obtain ⟨ci,cg,vw,rfl,h1,h2,h3,h4,h5⟩:=h
 simp only [List.length_append,List.length_map,h1,lenIS h3,lenPG h4]; rfl
theorem oneIN {C:Rdr} {cs:List Value} {t:MIn} (h:repIN C cs t):∀ u∈cs,u.oneCell'=true:=by
 obtain ⟨ci,cg,vw,rfl,h1,h2,h3,h4,h5⟩:=h
 exact ones_app (λu hu=>by rw [List.mem_singleton.1 hu]; rfl) (ones_app (ones_app (ones_bW _) (λu hu=>by rw [List.mem_singleton.1 hu]; rfl)) (ones_app (oneIS h3) (ones_app (onePG h4) (λu hu=>by rw [List.mem_singleton.1 hu]; exact h5.cells.2))))
structure MTr where
 after:Nat
 ins:List MIn
 outs:List MOu
def okTR (t:MTr):Bool:=(decide (t.ins.length≤16) && t.ins.all okIN) && (decide (t.outs.length≤16) && t.outs.all okOU)
def encTR (t:MTr):Byt:=nb 8 t.after++(encL encIN t.ins++encL encOU t.outs)
def wtTR (t:MTr):Nat:=8+((9+(t.ins.map wtIN).sum)+(9+(t.outs.map wtOU).sum))
def rdTR:Ps MTr:=bindP (numP 8) λa=>bindP (listP 16 rdIN) λi=>bindP (listP 16 rdOU) λo=>retP ⟨a,i,o⟩
def repTR (C:Rdr) (cs:List Value) (t:MTr):Prop:=∃ vi vo,cs=[.int .u64 (t.after:Int)]++([vi]++[vo])∧t.after<18446744073709551616∧LstR C 122 repIN vi t.ins∧LstR C 58 repOU vo t.outs
theorem monoTR:Mono repTR:=λhl ⟨vi,vo,h0,h1,h2,h3⟩=>⟨vi,vo,h0,h1,LstR.le (rep:=repIN) monoIN hl h2,LstR.le (rep:=repOU) monoOU hl h3⟩
theorem lenTR {C:Rdr} {cs:List Value} {t:MTr} (h:repTR C cs t):cs.length=3:=by obtain ⟨vi,vo,rfl,_⟩:=h; rfl
theorem oneTR {C:Rdr} {cs:List Value} {t:MTr} (h:repTR C cs t):∀ u∈cs,u.oneCell'=true:=by
 obtain ⟨vi,vo,rfl,h1,h2,h3⟩:=h
 exact ones_app (λu hu=>by rw [List.mem_singleton.1 hu]; rfl) (ones_app (λu hu=>by rw [List.mem_singleton.1 hu]; exact h2.cells.2) (λu hu=>by rw [List.mem_singleton.1 hu]; exact h3.cells.2))
structure MSg where
 key:Int
 sig:Byt
def okSG (s:MSg):Bool:=okO s.key
def encSG (s:MSg):Byt:=[octB s.key]++s.sig
def rdSG:Ps MSg:=bindP octP λk=>bindP (takeP 64) λs=>retP ⟨k,s⟩
def repSG (_:Rdr) (cs:List Value) (s:MSg):Prop:=cs=[.int .i64 s.key]++s.sig.map bv∧s.sig.length=64
theorem monoSG:Mono repSG:=λ_ h=>h
structure MBl where
 header:MHe
 sigs:List MSg
 txs:List MTr
def okBL (b:MBl):Bool:=okHE b.header && ((decide (b.sigs.length≤16) && b.sigs.all okSG) && (decide (b.txs.length≤64) && b.txs.all okTR))
def encBL (b:MBl):Byt:=encHE b.header++(encL encSG b.sigs++encL encTR b.txs)
def wtBL (b:MBl):Nat:=wtHE b.header+((9+(b.sigs.map λ_=>65).sum)+(9+(b.txs.map wtTR).sum))
def rdBL:Ps MBl:=bindP rdHE λh=>bindP (listP 16 rdSG) λs=>bindP (listP 64 rdTR) λt=>retP ⟨h,s,t⟩
def repBL (C:Rdr) (cs:List Value) (b:MBl):Prop:=∃ ch vs vt,cs=ch++([vs]++[vt])∧repHE C ch b.header∧LstR C 65 repSG vs b.sigs∧LstR C 3 repTR vt b.txs
theorem monoBL:Mono repBL:=λhl ⟨ch,vs,vt,h0,h1,h2,h3⟩=>⟨ch,vs,vt,h0,monoHE hl h1,LstR.le (rep:=repSG) monoSG hl h2,LstR.le (rep:=repTR) monoTR hl h3⟩
theorem lenHE {C:Rdr} {cs:List Value} {t:MHe} (h:repHE C cs t):cs.length=102:=by
 obtain ⟨vr,vk,rfl,h1,h2,h3,_⟩:=h
 simp only [cHE,List.length_append,List.length_map,h1,h2,h3]; rfl
theorem lenBL {C:Rdr} {cs:List Value} {t:MBl} (h:repBL C cs t):cs.length=104:=by
 obtain ⟨ch,vs,vt,rfl,h1,_⟩:=h
 rw [List.length_append,lenHE h1]; rfl
theorem oneBL {C:Rdr} {cs:List Value} {t:MBl} (h:repBL C cs t):∀ u∈cs,u.oneCell'=true:=by
 obtain ⟨ch,vs,vt,rfl,h1,h2,h3⟩:=h
 exact ones_app (oneHE h1) (ones_app (λu hu=>by rw [List.mem_singleton.1 hu]; exact h2.cells.2) (λu hu=>by rw [List.mem_singleton.1 hu]; exact h3.cells.2))
theorem okK2_of {z:Int} (h:¬ (z=1∨z=2)):okK2 z=false:=by
 cases hb:okK2 z with
 | false=>rfl
 | true =>
  unfold okK2 at hb
  rw [Bool.and_eq_true,decide_eq_true_eq,decide_eq_true_eq] at hb
  exact (h (by omega)).elim
end Wr
end
section
namespace Wr
open Go.RowKit Sy
set_option maxRecDepth 100000
set_option maxHeartbeats 4000000
theorem digestC_w:PutC 87 32 repDG (λ_=>true) (λx=>x) (λ_=>32):=λw0 gc gw gx f bad s R b cs x hx _ hc hb hl w hw=>by
 obtain ⟨rfl,h1⟩:=hx
 exact digest_w w0 gc gw gx f bad s R b x h1 hc hb (by omega) w hw
section
variable {α:Type} {rep:Rdr→List Value→α→Prop} {ok:α→Bool} {enc:α→Byt} {wt:α→Nat}
theorem el_w_dgs (hm:Mono rep) (hp:PutC 87 32 rep ok enc wt) (w0:Base) (gc gw g4 g7:Nat) (bad:Bool) (s:Slc) (R:Blocks) (b:Byt) (u:Value) (cs:List Value) (x:α) (h4:(g4,85,#[ptr gc])∈R) (h7:(g7,304,#[.func (.func 87) #[] #[]])∈R) (hx:rep (rdC w0 R) cs x) (hl:cs.length=32) (hb:BS s b) (hlen:b.length+wt x≤70368744170000) (w:World) (hw:St w0 w (CWS gc gw bad s R)) :
  Calls Tryz.prog 210 #[u,.agg cs.toArray,ptr g7,ptr g4] w (Turns w0 (WrC gc gw R (ok x) (enc x) (wt x) bad b)):=by
 refine Sy.enterT (args:=[u,.agg cs.toArray,ptr g7,ptr g4]) hw Tryz.func210 rfl kL ?_
 refine sC ?_
 refine sM 37 cs.toArray (λg5=>?_) kR (λw=>run_boxR rfl rfl (by kernel_rfl) hl w)
 refine Sy.permS (List.Perm.of_eq eqCW) ?_
 refine Sy.nil<|Sy.then_<|Sy.region ?_
 refine sS (.func (.func 87) #[] #[]) (cellC (R:=R++[(g5,37,cs.toArray)]) (mem1 (inA h7)) inCW rfl Tryz.underlying304)<|sS (ptr gc) (cellC (R:=R++[(g5,37,cs.toArray)]) (mem1 (inA h4)) inCW rfl Tryz.underlying85) ?_
 refine Sy.callT (λw hw=>hp w0.inn gc gw g5 0 bad s (R++[(g5,37,cs.toArray)]) b cs x (hm (rdC_le (λ_ h=>inA h)) hx) hl (memX lastR) hb hlen w hw) (λv M hM=>?_)
 obtain ⟨s1,bad1,b1,h1,h2,rfl⟩:=hM
 refine Sy.nil ?_
 exact Sy.retT0 rfl (CWS gc gw bad1 s1 R) (λ_ h=>dropR h) (λ_=>⟨s1,bad1,b1,h1,h2,rfl⟩)
end
section
variable {α:Type} {rep:Rdr→List Value→α→Prop} {ok:α→Bool} {enc:α→Byt} {wt:α→Nat}
theorem put_w_dgs (hm:Mono rep) (hp:PutC 87 32 rep ok enc wt) (w0:Base) (gc gw g4 g7:Nat) (bad:Bool) (s:Slc) (R:Blocks) (b:Byt) (v:Value) (l:List α) (h4:(g4,85,#[ptr gc])∈R) (h7:(g7,304,#[.func (.func 87) #[] #[]])∈R) (hv:LstR (rdC w0 R) 32 rep v l) (hb:BS s b) (hlen:b.length+(9+(l.map wt).sum)≤70368744170000) (w:World) (hw:St w0 w (CWS gc gw bad s R)) :
  Calls Tryz.prog 209 #[ptr gw,v,.func (.func 210) #[] #[ptr g7,ptr g4]] w (Turns w0 (WrC gc gw R (l.all ok) (varB l.length++l.flatMap enc) (9+(l.map wt).sum) bad b)):=by
 obtain ⟨A,n,cp,rfl,h2,h3,h4',h5⟩:=hv
 have hmx:n<9223372036854775808:=by simp only [maxLen] at h4'; omega
 refine Sy.enterT (args:=[ptr gw,.slice A n cp,.func (.func 210) #[] #[ptr g7,ptr g4]]) hw Tryz.func209 rfl kL ?_
 refine sC ?_
 refine sp rfl<|sp rfl<|sP (.int .i64 (n:Int))<|sS (.int .u64 (n:Int)) (Quiet.pure (λw=>conv_i6 w _ _ _ n (by omega) rfl rfl)) ?_
 refine Sy.callT (λw hw=>var_any w0.inn gw s ((gc,134,#[ptr gw,.pointer none,.bool bad])::R) b n (by omega) hb (by omega) w (hw.perm permCW)) (λu M hM=>?_)
 obtain ⟨s1,hs1,rfl⟩:=hM
 have hn9:=varB_len n
 refine Sy.permS permCW.symm ?_
 refine Sy.nil<|sB ?_
 refine sp rfl<|sP (.int .i64 (n:Int))<|sP (.int .i64 0) ?_
 refine sG<|Sy.block ?_
 have hw0:Wrote true (varB n) 9 bad b bad (b++varB n):=Wrote.raw _ _ _ hn9
 have hsum:∀ i,((l.take i).map wt).sum≤(l.map wt).sum:=λi=>by
  have e:=congrArg (λz=>(z.map wt).sum) (List.take_append_drop i l)
  simp only [List.map_append,List.sum_append] at e
  omega
 refine Sy.loopT (Y:=Slc×Bool×Byt) n (λi y=>[(0,ptr gw),(2,.func (.func 210) #[] #[ptr g7,ptr g4]),(13,.slice A n cp),(14,.int .i64 (n:Int)),(15,.int .i64 (i:Int))]) (λi y=>CWS gc gw y.2.1 y.1 R) (λi y=>Wrote ((l.take i).all ok) (varB n++(l.take i).flatMap enc) (9+((l.take i).map wt).sum) bad b y.2.1 y.2.2∧BS y.1 y.2.2) (s1,bad,b++varB n) ⟨by
  have e:Wrote ((l.take 0).all ok) (varB n++(l.take 0).flatMap enc) (9+((l.take 0).map wt).sum) bad b bad (b++varB n):=by
   rw [List.take_zero]
   simpa using hw0
  exact e,hs1⟩ (all_cons kR (all_cons kR (all_cons kR (all_cons kR (all_cons kR all_nil))))) (λ_ h=>h) (λi y hi hy=>?_)
 obtain ⟨sy,bady,by_⟩:=y
 obtain ⟨hy,hsy⟩:=hy
 dsimp only at hy hsy ⊢
 refine sC ?_
 obtain ⟨b2,hb2⟩:∃ z:Bool,z=decide (i<n):=⟨_,rfl⟩
 refine sS (.bool b2) (Quiet.pure (exec_int .lss _ _ _ .i64 _ _ _ rfl rfl rfl (int_lss _ _ _ _ _ (by rw [hb2]; exact decide_eq_decide.2 (by omega))))) ?_
 refine sG<|Sy.seq ?_
 cases b2
 case' false =>
  have l2:¬ i<n:=of_decide_eq_false hb2.symm
  obtain rfl:i=n:=by omega
  rw [List.take_of_length_le (by omega)] at hy
  refine sU<|Sy.exit<|Sy.then_exit<|Sy.then_exit<|Sy.in_exit ?_
  rw [h2]
  exact Sy.retT0 rfl (CWS gc gw bady sy R) (λ_ h=>h) (λ_=>⟨sy,bady,by_,hy,hsy,rfl⟩)
 have l2:i<n:=of_decide_eq_true hb2.symm
 obtain ⟨x,hx⟩:∃ x,l[i]? = some x:=⟨_,List.getElem?_eq_getElem (by omega)⟩
 obtain ⟨g,o,rfl,hq⟩:=h5 (by intro e; rw [e] at hx; cases hx)
 obtain ⟨cs,c1,c2,c3,c4⟩:=hq i x hx
 have htk:l.take (i+1)=l.take i++[x]:=by rw [List.take_add_one,hx]; rfl
 have hsi:=hsum (i+1)
 rw [htk] at hsi
 simp only [List.map_append,List.sum_append,List.map_cons,List.map_nil,List.sum_cons,List.sum_nil] at hsi
 refine sT<|Sy.skip<|Sy.then_<|Sy.seq<|Sy.block<|sC ?_
 refine sS (.pointer (some ⟨g,o+i*32,none⟩)) (Quiet.pure (exec_atO 146 _ _ _ (some ⟨g,o,none⟩) g o n cp i 32 .i64 rfl rfl rfl rfl Tryz.underlying146 kF l2))<|sS (.agg cs.toArray) (rowC (R:=R) c4 inCW c1 rfl Tryz.underlying37) ?_
 refine sM 37 (Z32).toArray (λg9=>?_)
 refine Sy.permS (List.Perm.of_eq eqCW) ?_
 refine Sy.permS (List.perm_append_comm (l₁:=CWS gc gw bady sy R) (l₂:=[(g9,37,(Z32).toArray)]) |> λh=>(List.Perm.of_eq eqCW.symm).trans h) ?_
 refine sw 0 rfl cs.toArray (Writes.row 37 cs 32 _ _ rfl kR kR kR c1 (by kernel_rfl) c2) ?_
 refine Sy.permS ((List.perm_append_comm (l₁:=[(g9,37,cs.toArray)]) (l₂:=CWS gc gw bady sy R)).trans (List.Perm.of_eq eqCW)) ?_
 refine Sy.nil<|Sy.then_<|Sy.region ?_
 refine sp rfl<|sp rfl<|sS (.agg cs.toArray) (rowC (R:=R++[(g9,37,cs.toArray)]) (memX lastR) inCW c1 rfl Tryz.underlying37) ?_
 refine Sy.callT (λw hw=>el_w_dgs (rep:=rep) (ok:=ok) (enc:=enc) (wt:=wt) hm hp w0.inn gc gw g4 g7 bady sy (R++[(g9,37,cs.toArray)]) by_ (ptr gw) cs x (inA h4) (inA h7) (hm (rdC_le (λ_ h=>inA h)) c3) c1 hsy (by have hyl:=hy.len; omega) w hw) (λv M hM=>?_)
 obtain ⟨s3,bad3,b3,q1,q2,rfl⟩:=hM
 refine Sy.nil<|Sy.in_<|Sy.then_<|Sy.region ?_
 refine sS (.int .i64 ((i+1:Nat):Int)) (Quiet.pure (exec_int .add _ _ _ .i64 _ _ _ rfl rfl rfl (int_add _ _ _ _ _ ((wrap_i64 (by omega) (by omega)).trans (by omega)))))<|sp rfl ?_
 refine Sy.nil ?_
 have hW:=hy.then_ q1
 have hW':Wrote ((l.take (i+1)).all ok) (varB n++(l.take (i+1)).flatMap enc) (9+((l.take (i+1)).map wt).sum) bad b bad3 b3:=by
  rw [htk]
  simp only [List.all_append,List.flatMap_append,List.map_append,List.sum_append,List.all_cons,List.all_nil,List.flatMap_cons,List.flatMap_nil,List.map_cons,List.map_nil,List.sum_cons,List.sum_nil,Bool.and_true,List.append_nil,Nat.add_zero, ← List.append_assoc, ← Nat.add_assoc]
  simpa only [List.append_assoc,Nat.add_assoc] using hW
 exact Sy.againT (s3,bad3,b3) l2 ⟨hW',q2⟩ (all_cons kR (all_cons kR (all_cons kR (all_cons kR (all_cons kR all_nil))))) (λw h=>dropR h)
theorem list_w_dgs (hm:Mono rep) (hp:PutC 87 32 rep ok enc wt) (w0:Base) (gc gw gx f most:Nat) (hmo:most<1000000) (bad:Bool) (s:Slc) (R:Blocks) (b:Byt) (v:Value) (l:List α) (hv:LstR (rdC w0 R) 32 rep v l) (hc:rdC w0 R gx f v) (hb:BS s b) (hlen:b.length+(9+(l.map wt).sum)≤70368744170000) (w:World) (hw:St w0 w (CWS gc gw bad s R)) :
  Calls Tryz.prog 169 #[ptr gc,.pointer (some ⟨gx,f,none⟩),.int .i64 (most:Int),.func (.func 87) #[] #[]] w (Turns w0 (WrC gc gw R (decide (l.length≤most) && l.all ok) (varB l.length++l.flatMap enc) (9+(l.map wt).sum) bad b)):=by
 have hv0:=hv
 obtain ⟨A,n,cp,rfl,h2,h3,h4',h5⟩:=hv
 refine Sy.enterT (args:=[ptr gc,.pointer (some ⟨gx,f,none⟩),.int .i64 (most:Int),.func (.func 87) #[] #[]]) hw Tryz.func169 rfl kL ?_
 refine sC ?_
 refine sM 85 #[ptr gc] (λg4=>?_)
 refine Sy.permS (List.Perm.of_eq eqCW) ?_
 refine sM 304 #[.func (.func 87) #[] #[]] (λg7=>?_)
 refine Sy.permS (List.Perm.of_eq eqCW) ?_
 obtain ⟨R1,hR1⟩:∃ R1,R1=R++[(g4,85,#[ptr gc])]++[(g7,304,#[.func (.func 87) #[] #[]])]:=⟨_,rfl⟩
 rw [← hR1]
 have m4:(g4,85,#[ptr gc])∈R1:=by rw [hR1]; exact inA lastR
 have m7:(g7,304,#[.func (.func 87) #[] #[]])∈R1:=by rw [hR1]; exact lastR
 have mR:∀ x∈R,x∈R1:=λx hx=>by rw [hR1]; exact inA (inA hx)
 have hv1:LstR (rdC w0 R1) 32 rep (.slice A n cp) l:=LstR.le (rep:=rep) hm (rdC_le mR) hv0
 have hc1:rdC w0 R1 gx f (.slice A n cp):=rdC_le mR _ _ _ hc
 have back:∀ {w:World} {bad':Bool} {s':Slc},St w0 w (CWS gc gw bad' s' R1)→St w0 w (CWS gc gw bad' s' R):=λh=>by
  rw [hR1,List.append_assoc] at h
  exact dropR h
 refine sG<|Sy.seq<|sC ?_
 refine sS (ptr gc) (cellC (R:=R1) (mem1 m4) inCW rfl Tryz.underlying85)<|sS (.bool false) (qg (λw hw=>reads_w w0.inn gc _ _ (List.mem_cons_self ..) w hw)) ?_
 refine sG<|sU<|Sy.skip ?_
 obtain ⟨b1,hb1⟩:∃ z:Bool,z=decide (n≤most):=⟨_,rfl⟩
 refine sR (λj=>j == 7) ?_
 refine sD 0 rfl (ptr gc) (cellC (R:=R1) (mem1 m4) inCW rfl Tryz.underlying85)<|sa 1 rfl rfl<|sa 2 rfl rfl<|se 3 [4,6,7] rfl (.slice A n cp) (cellC (R:=R1) hc1 inCW rfl Tryz.underlying146)<|sb 4 rfl (.int .i64 (n:Int))<|sa 5 rfl rfl ?_
 refine sv 6 rfl (.bool b1) (exec_int .leq _ _ _ .i64 _ _ _ rfl rfl rfl (int_leq _ _ _ _ _ (by rw [hb1]; exact decide_eq_decide.2 (by omega)))) ?_
 refine Sy.soleD 7 rfl (λQ2 hq2=>?_)
 refine Sy.callT (λw hw=>must_w w0.inn gc gw bad b1 s R1 w hw) (λu M hM=>?_)
 subst hM
 refine hq2 _ _ ?_
 refine sE ?_
 obtain ⟨bad1,hbad1⟩:∃ x,x=(bad || !b1):=⟨_,rfl⟩
 rw [← hbad1]
 refine sB ?_
 refine sS (ptr gc) (cellC (R:=R1) (mem1 m4) inCW rfl Tryz.underlying85)<|sp rfl<|sP (.pointer (some ⟨gc,2,none⟩))<|sS (.bool bad1) (qc 0 2 rfl rfl Tryz.underlying4)<|sP (.bool (!bad1)) ?_
 refine sG ?_
 cases bad1
 ·have hb1t:bad=false∧b1=true:=by cases bad <;> cases b1 <;> first | exact ⟨rfl,rfl⟩ | cases hbad1
  obtain ⟨rfl,rfl⟩:=hb1t
  have e1:decide (l.length≤most)=true:=by rw [h2, ← hb1]
  rw [e1,Bool.true_and]
  refine sT ?_
  refine Sy.regionD (λj=>j == 8) kR ?_
  refine se 0 [1,2,3,8] rfl (ptr gc) (cellC (R:=R1) (mem1 m4) inCW rfl Tryz.underlying85)<|sa 1 rfl rfl<|sb 2 rfl (.pointer (some ⟨gc,0,none⟩))<|sD 3 rfl (ptr gw) (qc 0 0 rfl rfl Tryz.underlying130)<|sa 4 rfl rfl<|sa 5 rfl rfl<|sD 6 rfl (.slice A n cp) (cellC (R:=R1) hc1 inCW rfl Tryz.underlying146)<|sb 7 rfl (.func (.func 210) #[] #[ptr g7,ptr g4]) ?_
  refine Sy.soleD 8 rfl (λQ2 hq2=>?_)
  refine Sy.callT (λw hw=>put_w_dgs (rep:=rep) hm hp w0.inn gc gw g4 g7 false s R1 b (.slice A n cp) l m4 m7 hv1 hb hlen w hw) (λu M hM=>?_)
  obtain ⟨s1,bad2,b2,q1,q2,rfl⟩:=hM
  refine hq2 _ _ ?_
  refine sE ?_
  exact Sy.retT0 rfl (CWS gc gw bad2 s1 R) (λ_ h=>back h) (λ_=>⟨s1,bad2,b2,q1,q2,rfl⟩)
 ·refine sU<|Sy.skip ?_
  have e1:true=(bad || !(decide (l.length≤most) && l.all ok)):=by
   rw [h2, ← hb1]
   cases bad
   ·cases b1
    ·rfl
    ·cases hbad1
   ·rfl
  exact Sy.retT0 rfl (CWS gc gw true s R) (λ_ h=>back h) (λ_=>⟨s,true,b,⟨e1,λh=>(by cases h),by omega⟩,hb,rfl⟩)
end
section
variable {α:Type} {rep:Rdr→List Value→α→Prop} {p:Ps α}
theorem el_r_dgs (hm:Mono rep) (hp:GetC 87 32 ((Z32)) rep p) (w0:Base) (gc gr g4 g7:Nat) (sl:Value) (s:RS) (R S:Blocks) (hS:∀ b∈S,b∈R) (h4:(g4,85,#[ptr gc])∈R) (h7:(g7,304,#[.func (.func 87) #[] #[]])∈R) (he:s.e≤200) (hl:s.rest.length≤70368744177664) (hv:BytR (rdC w0 S) sl s.rest) (u:Value) (w:World) (hw:St w0 w (CRN gc gr sl s.e R)) :
  Calls Tryz.prog 208 #[u,ptr g7,ptr g4] w (Turns w0 (RdV 32 rep p w0 gc gr s R S)):=by
 refine Sy.enterT (args:=[u,ptr g7,ptr g4]) hw Tryz.func208 rfl kL ?_
 refine sC ?_
 refine sM 37 ((Z32)).toArray (λga=>?_)
 refine sA ?_
 refine sM 37 ((Z32)).toArray (λgb=>?_)
 refine Sy.permS (M:=CRS gc gr gb 37 ([]++(((Z32))++[])) sl s.e ((ga,37,((Z32)).toArray)::R)) permEl ?_
 refine sA ?_
 refine sS (.func (.func 87) #[] #[]) (cellC (R:=(ga,37,((Z32)).toArray)::R) (mem1 (List.mem_cons_of_mem _ h7)) inCR rfl Tryz.underlying304)<|sS (ptr gc) (cellC (R:=(ga,37,((Z32)).toArray)::R) (mem1 (List.mem_cons_of_mem _ h4)) inCR rfl Tryz.underlying85) ?_
 refine Sy.callT (λw hw=>hp w0.inn gc gr gb 0 37 [] [] sl s ((ga,37,((Z32)).toArray)::R) S (λb h=>List.mem_cons_of_mem _ (hS b h)) rfl he hl hv w hw) (λv M hM=>?_)
 obtain ⟨x,s',sl',cs,N,q1,q2,q3,q4,q5,q6,q7,rfl⟩:=hM
 rw [List.append_nil]
 refine sA ?_
 refine sS (.agg cs.toArray) (Quiet.mid 1 gb 0 32 37 37 cs cs _ _ rfl kR rfl Tryz.underlying37 rfl kR (by rw [List.drop_zero,List.take_of_length_le (by omega)]) (by omega))<|sw 3 rfl cs.toArray (Writes.row 37 cs 32 _ _ rfl kR kR kR q2 (by kernel_rfl) q3) ?_
 refine sG<|Sy.ret ?_
 exact Sy.retT1 (CRN gc gr sl' s'.e (R++N)) rfl (.inl (Sy.Res.cell (ty':=37) ga 3 cs.toArray _ (by kernel_rfl) rfl Tryz.underlying37 rfl (by rw [List.size_toArray,q2]; kernel_rfl) rfl)) (λw h=>h.less (((List.Sublist.refl _).cons _ |>.cons_cons _).cons _ |>.cons_cons _)) ⟨x,s',sl',cs,N,q1,q2,q3,q4,rfl,q5,q6,q7,rfl⟩
theorem items_r_dgs (w:World) (gr most g4 g7:Nat):Calls Tryz.prog 238 #[ptr gr,.int .i64 (most:Int),.func (.func 208) #[] #[ptr g7,ptr g4]] w (GetsN w (λv M=>∃ a b c,v=.func (.func 266) #[] #[ptr a,ptr b,ptr c]∧M=[(a,132,#[ptr gr]),(b,3,#[.int .i64 (most:Int)]),(c,351,#[.func (.func 208) #[] #[ptr g7,ptr g4]])])):=by
 refine Sy.enter (args:=[ptr gr,.int .i64 (most:Int),.func (.func 208) #[] #[ptr g7,ptr g4]]) Tryz.func238 rfl kL ?_
 refine sC ?_
 refine sM 132 #[ptr gr] (λa=>?_)
 refine sM 3 #[.int .i64 (most:Int)] (λb=>?_)
 refine sM 351 #[.func (.func 208) #[] #[ptr g7,ptr g4]] (λc=>?_)
 refine sP .nilFunc ?_
 refine sA ?_
 refine sP (.func (.func 266) #[] #[ptr a,ptr b,ptr c])<|sp rfl ?_
 refine sG<|Sy.ret ?_
 exact Sy.retGM _ rfl (.inl (show _=_ by kernel_rfl)) (λ_ h=>h) ⟨a,b,c,rfl,rfl⟩
noncomputable def inf_dgs:TypeInfo:=(Tryz.prog.info? 37).getD default
theorem info_dgs:Tryz.prog.info? 37=some inf_dgs:=by kernel_rfl
def HYL_dgs (p:Ps α) (rep:Rdr→List Value→α→Prop) (w0:Base) (S:Blocks) (m:Nat) (s1:RS) (v:Nat×List Value) (y:YL α):Prop:=∃ x,y.x=some x∧y.l.length=v.1∧RowsOk 37 32 rep y.r y.N y.l∧rep (rdB y.N) v.2 x∧v.2.length=32∧(∀ u∈v.2,u.oneCell'=true)∧v.1<1000000
def HRL_dgs (rep:Rdr→List Value→α→Prop) (y y':YL α):Prop:=∃ x r',y.x=some x∧RowsOk 37 32 rep r' y.N (y.l++[x])∧y'={ y with l:=y.l++[x],r:=r',x:=none }
theorem iter_r_dgs (hm:Mono rep) (hp:GetC 87 32 ((Z32)) rep p) (w0:Base) (fz:World) (gc gr gl g4 g7 a b c most:Nat) (hmost:most<1000000) (R S:Blocks) (s0:RS) (sl0:Value) (hS:∀ x∈S,x∈R) (h4:(g4,85,#[ptr gc])∈R) (h7:(g7,304,#[.func (.func 87) #[] #[]])∈R) (ha:(a,132,#[ptr gr])∈R) (hb:(b,3,#[.int .i64 (most:Int)])∈R) (hc:(c,351,#[.func (.func 208) #[] #[ptr g7,ptr g4]])∈R) (he:s0.e≤200) (hl:s0.rest.length≤70368744177664) (hv:BytR (rdC w0 S) sl0 s0.rest) (lp:Nat) (w:World) (hw:St (ib w0.world fz) w (LBL gc gr gl 146 nilS s0.e sl0 R []))
  (hY:∀ (v:Nat×List Value) (y:YL α) (W:World),(HYL_dgs p rep w0 S 0 s0 v y)→St (ib w0.world fz) W (LBL gc gr gl 146 y.r y.s.e y.sl R y.N)→YieldAt Fence.wide 7 Tryz.prog lp #[.int .i64 (v.1:Int),.agg v.2.toArray] W (RoundT w0.world fz (HRL_dgs rep y) (λy=>LBL gc gr gl 146 y.r y.s.e y.sl R y.N))) :
  CallsIn Fence.wide 8 Tryz.prog 266 #[.func (.yield lp) #[] #[],ptr a,ptr b,ptr c] w (DoneT w0.world fz (λy:YL α=>∃ m s1,After (varP most) s0 m s1∧s1.rest.length≤s0.rest.length∧y.l.length≤most∧InvL 37 32 rep p w0 S m s1 y.l.length y∧(y.s.e=0→y.l.length=m)) (λy=>LBL gc gr gl 146 y.r y.s.e y.sl R y.N)):=by
 refine Sy.enterI (args:=[.func (.yield lp) #[] #[],ptr a,ptr b,ptr c]) hw Tryz.func266 rfl kL ?_
 refine sC ?_
 refine sS (ptr gr) (cellC (R:=R) (mem1 ha) lbl_in rfl Tryz.underlying132)<|sS (.int .i64 (most:Int)) (cellC (R:=R) (mem1 hb) lbl_in rfl Tryz.underlying3) ?_
 refine Sy.callT (λw hw=>count_any (ib w0.world fz) gr sl0 s0 ((gc,134,#[.pointer none,ptr gr,.bool false])::(gl,146,#[.slice none 0 0])::(R++[])) S (λx h=>List.mem_cons_of_mem _ (List.mem_cons_of_mem _ (List.mem_append_left _ (hS x h)))) most hmost he hv w (hw.perm swap12)) (λu M hM=>?_)
 obtain ⟨m,s1,sl1,hA1,⟨rfl,hm1⟩,hs1e,hs1r,hs1b,rfl⟩:=hM
 refine Sy.permS (M:=LBL gc gr gl 146 nilS s1.e sl1 R []) swap12.symm ?_
 refine sp rfl ?_
 refine sA ?_
 refine sP (.int .i64 0) ?_
 refine sG<|Sy.block ?_
 refine Sy.loopT (Y:=YL α) m (λi y=>[(0,.func (.yield lp) #[] #[]),(1,ptr a),(2,ptr b),(3,ptr c),(5,.int .i64 (m:Int)),(6,.int .i64 (i:Int))]) (λi y=>LBL gc gr gl 146 y.r y.s.e y.sl R y.N) (λi y=>InvL 37 32 rep p w0 S m s1 i y) ⟨[],nilS,s1,sl1,[],none⟩ ⟨rfl,RowsOk.nil,λh=>⟨h,rfl⟩,λh=>.inl h,hs1e,Nat.le_refl _,hs1b⟩ (all_cons kR (all_cons kR (all_cons kR (all_cons kR (all_cons kR (all_cons kR all_nil)))))) (λ_ h=>h) (λi y hi hy=>?_)
 obtain ⟨l,r,s,sl,N,xo⟩:=y
 have hylen:l.length=i:=hy.len
 refine Sy.seq<|sC ?_
 obtain ⟨b1,hb1⟩:∃ z:Bool,z=decide (i<m):=⟨_,rfl⟩
 refine sp rfl<|sp rfl<|sS (.bool b1) (Quiet.pure (exec_int .lss _ _ _ .i64 _ _ _ rfl rfl rfl (int_lss _ _ _ _ _ (by rw [hb1]; exact decide_eq_decide.2 (by omega)))))<|sp rfl ?_
 cases b1
 case' false =>
  have l1:¬ i<m:=of_decide_eq_false hb1.symm
  obtain rfl:i=m:=by omega
  refine sN<|sN<|sN<|sP (.bool false) ?_
  refine sG<|sU<|Sy.exit<|Sy.then_exit<|Sy.then_exit<|Sy.in_exit ?_
  exact Sy.retI rfl (λv w h=>⟨⟨_,rfl⟩,⟨l,r,s,sl,N,xo⟩,⟨i,s1,hA1,hs1r,by show l.length≤most; omega,by rw [show (⟨l,r,s,sl,N,xo⟩:YL α).l.length=i from hylen]; exact hy,λ_=>hylen⟩,h⟩) (.inr rfl)
 have l1:i<m:=of_decide_eq_true hb1.symm
 obtain ⟨b2,hb2⟩:∃ z:Bool,z=decide (s.e=0):=⟨_,rfl⟩
 have hse:s.e≤200:=hy.e
 refine sS (ptr gr) (cellC (R:=R) (mem1 ha) lbl_in rfl Tryz.underlying132)<|sS (.int .i64 (s.e:Int)) (qg (λw hw=>err_any (ib w0.world fz) gr sl s.e [] (List.mem_cons_of_mem _ (List.mem_cons_self ..)) w hw))<|sS (.bool b2) (Quiet.pure (exec_int .eql _ _ _ .i64 _ _ _ rfl rfl rfl (int_eql _ _ _ _ _ (by rw [hb2]; exact decide_eq_decide.2 (by omega)))))<|sP (.bool b2) ?_
 refine sG ?_
 cases b2
 case' false =>
  have l2:s.e≠0:=of_decide_eq_false hb2.symm
  refine sU<|Sy.exit<|Sy.then_exit<|Sy.then_exit<|Sy.in_exit ?_
  exact Sy.retI rfl (λv w h=>⟨⟨_,rfl⟩,⟨l,r,s,sl,N,xo⟩,⟨m,s1,hA1,hs1r,by show l.length≤most; omega,by rw [show (⟨l,r,s,sl,N,xo⟩:YL α).l.length=i from hylen]; exact hy,λh=>(l2 h).elim⟩,h⟩) (.inr rfl)
 have l2:s.e=0:=of_decide_eq_true hb2.symm
 obtain ⟨hs10,hrep⟩:=hy.yes l2
 refine sT<|Sy.skip<|Sy.then_<|Sy.seq<|Sy.block<|sC ?_
 refine sS (.func (.func 208) #[] #[ptr g7,ptr g4]) (cellC (R:=R) (mem1 hc) lbl_in rfl Tryz.underlying351)<|sS (ptr gr) (cellC (R:=R) (mem1 ha) lbl_in rfl Tryz.underlying132) ?_
 refine Sy.callT (λw hw=>el_r_dgs (rep:=rep) (p:=p) hm hp (ib w0.world fz) gc gr g4 g7 sl s ((gl,146,#[r.v])::(r.bl++(R++N))) S (λx h=>List.mem_cons_of_mem _ (List.mem_append_right _ (List.mem_append_left _ (hS x h)))) (List.mem_cons_of_mem _ (List.mem_append_right _ (List.mem_append_left _ h4))) (List.mem_cons_of_mem _ (List.mem_append_right _ (List.mem_append_left _ h7))) hse (Nat.le_trans (Nat.le_trans hy.rest hs1r) hl) hy.byt (ptr gr) w hw) (λu M hM=>?_)
 obtain ⟨x,s',sl',cs,N1,q1,q2,q3,q4,rfl,q5,q6,q7,rfl⟩:=hM
 obtain ⟨st1,st2⟩:=rep_step hrep l2 q1
 refine sM 37 ((Z32)).toArray (λgb=>?_)
 refine Sy.permS (M:=(gb,37,((Z32)).toArray)::LBL gc gr gl 146 r s'.e sl' R (N++N1)) ((List.perm_append_comm (l₂:=[(gb,37,((Z32)).toArray)])).trans (List.Perm.cons _ (List.Perm.of_eq (by simp only [List.cons_append,List.append_assoc,List.nil_append]; rfl)))) ?_
 refine sw 0 rfl cs.toArray (Writes.row 37 cs 32 _ _ rfl kR kR kR q2 (by kernel_rfl) q3) ?_
 refine Sy.nil<|Sy.then_ ?_
 have hR2:RowsOk 37 32 rep r (N++N1) l:=RowsOk.more (rep:=rep) hm hy.rows (λb h=>List.mem_append_left _ h)
 have hx2:rep (rdB (N++N1)) cs x:=hm (rdB_le λb h=>List.mem_append_right _ h) q4
 have drop1:∀ {w:World},St (ib w0.world fz) w ((gb,37,cs.toArray)::LBL gc gr gl 146 r s'.e sl' R (N++N1))→St (ib w0.world fz) w (LBL gc gr gl 146 r s'.e sl' R (N++N1)):=λh=>h.less (List.sublist_cons_self _ _)
 obtain ⟨b3,hb3⟩:∃ z:Bool,z=decide (s'.e≠0):=⟨_,rfl⟩
 have inl:∀ b∈R,b∈(gb,37,cs.toArray)::LBL gc gr gl 146 r s'.e sl' R (N++N1):=λb h=>List.mem_cons_of_mem _ (lbl_in b h)
 refine Sy.seq ?_
 cases b3
 case' true =>
  have l3:s'.e≠0:=of_decide_eq_true hb3.symm
  refine Sy.region ?_
  refine sS (ptr gr) (cellC (R:=R) (mem1 ha) inl rfl Tryz.underlying132)<|sS (.int .i64 (s'.e:Int)) (qg (λw hw=>err_any (ib w0.world fz) gr sl' s'.e [] (List.mem_cons_of_mem _ (List.mem_cons_of_mem _ (List.mem_cons_self ..))) w hw))<|sS (.bool true) (Quiet.pure (exec_int .neq _ _ _ .i64 _ _ _ rfl rfl rfl (int_neq _ _ _ _ _ (by rw [hb3]; exact decide_eq_decide.2 (by omega)))))<|sp rfl<|sN<|sN<|sN<|sN<|sN<|sP (.bool true) ?_
  refine sG<|sT<|Sy.ret<|Sy.in_ret<|Sy.then_ret<|Sy.then_ret<|Sy.in_ret ?_
  exact Sy.retI rfl (λv w h=>⟨⟨_,rfl⟩,⟨l,r,s',sl',N++N1,none⟩,⟨m,s1,hA1,hs1r,by show l.length≤most; omega,⟨rfl,hR2,λh=>(l3 h).elim,λ_=>.inr (st2 l3 m l1),q5,Nat.le_trans q6 hy.rest,q7⟩,λh=>(l3 h).elim⟩,drop1 h⟩) (.inl rfl)
 have l3:s'.e=0:=Decidable.of_not_not (of_decide_eq_false hb3.symm)
 refine Sy.regionI 7 (by rintro ⟨_,_,⟨_,hv⟩,_⟩; cases hv) kR ?_
 refine sS (ptr gr) (cellC (R:=R) (mem1 ha) inl rfl Tryz.underlying132)<|sS (.int .i64 (s'.e:Int)) (qg (λw hw=>err_any (ib w0.world fz) gr sl' s'.e [] (List.mem_cons_of_mem _ (List.mem_cons_of_mem _ (List.mem_cons_self ..))) w hw))<|sS (.bool false) (Quiet.pure (exec_int .neq _ _ _ .i64 _ _ _ rfl rfl rfl (int_neq _ _ _ _ _ (by rw [hb3]; exact decide_eq_decide.2 (by omega)))))<|sp rfl<|sp rfl<|sp rfl<|sS (.agg cs.toArray) (Quiet.mid 0 gb 0 32 37 37 cs cs _ _ rfl kR rfl Tryz.underlying37 rfl kR (by rw [List.drop_zero,List.take_of_length_le (by omega)]) (by omega)) ?_
 refine Sy.nil ?_
 refine Sy.yieldI (HR:=HRL_dgs rep ⟨l,r,s',sl',N++N1,some x⟩) (LR:=λy=>LBL gc gr gl 146 y.r y.s.e y.sl R y.N) rfl (by rintro ⟨_,_,⟨_,hv⟩,_⟩; cases hv) kR kR lp #[.int .i64 (i:Int),.agg cs.toArray] kF (λw hw=>hY (i,cs) ⟨l,r,s',sl',N++N1,some x⟩ w ⟨x,rfl,hylen,hR2,hx2,q2,q3,by show i<1000000; omega⟩ (drop1 hw)) (λy' hy'=>?_)
 obtain ⟨x',r',hx',hr',rfl⟩:=hy'
 obtain rfl:x=x':=by injection hx'
 refine sP (.bool false)<|sP (.bool false) ?_
 refine sG<|sU<|Sy.skip<|Sy.in_<|Sy.then_<|Sy.region ?_
 refine sp rfl<|sS (.int .i64 ((i+1:Nat):Int)) (Quiet.pure (exec_int .add _ _ _ .i64 _ _ _ rfl rfl rfl (int_add _ _ _ _ _ ((wrap_i64 (by omega) (by omega)).trans (by omega)))))<|sp rfl ?_
 refine Sy.nil ?_
 exact Sy.againT ⟨l++[x],r',s',sl',N++N1,none⟩ l1 ⟨by simp [hylen],hr',λ_=>⟨hs10,st1 l3⟩,λh=>(h l3).elim,q5,Nat.le_trans q6 hy.rest,q7⟩ (all_cons kR (all_cons kR (all_cons kR (all_cons kR (all_cons kR (all_cons kR all_nil)))))) (λw h=>h)
theorem list9_r_dgs (hm:Mono rep) (hp:GetC 87 32 ((Z32)) rep p) (w0:Base) (gc gr g4 g7 most:Nat) (hmost:most<1000000) (sl0:Value) (s0:RS) (R S:Blocks) (hS:∀ x∈S,x∈R) (h4:(g4,85,#[ptr gc])∈R) (h7:(g7,304,#[.func (.func 87) #[] #[]])∈R) (he:s0.e≤200) (hl:s0.rest.length≤70368744177664) (hv:BytR (rdC w0 S) sl0 s0.rest) (w:World) (hw:St w0 w (CRN gc gr sl0 s0.e R)) :
  Calls Tryz.prog 207 #[ptr gr,.int .i64 (most:Int),.func (.func 208) #[] #[ptr g7,ptr g4]] w (Turns w0 (RdL 32 rep (listP most p) w0 gc gr s0 R S)):=by
 refine Sy.enterTM (args:=[ptr gr,.int .i64 (most:Int),.func (.func 208) #[] #[ptr g7,ptr g4]]) hw Tryz.func207 rfl kL ?_
 refine sC ?_
 refine sP (.slice none 0 0) ?_
 refine sA ?_
 refine sM 146 #[.slice none 0 0] (λgl=>?_)
 refine sG<|Sy.seq<|sC ?_
 refine sp rfl<|sp rfl<|sp rfl ?_
 refine Sy.callN kR 238 #[ptr gr,.int .i64 (most:Int),.func (.func 208) #[] #[ptr g7,ptr g4]] kF _ (λw _=>items_r_dgs w gr most g4 g7) (λv M hM=>?_)
 obtain ⟨a,b,c,rfl,rfl⟩:=hM
 refine Sy.nil<|Sy.then_<|Sy.block ?_
 obtain ⟨R1,hR1⟩:∃ R1,R1=R++[(a,132,#[ptr gr]),(b,3,#[.int .i64 (most:Int)]),(c,351,#[.func (.func 208) #[] #[ptr g7,ptr g4]])]:=⟨_,rfl⟩
 refine Sy.permC (M:=LBL gc gr gl 146 nilS s0.e sl0 R1 []) (by rw [hR1]; exact permLB) ?_
 have mR:∀ x∈R,x∈R1:=λx hx=>by rw [hR1]; exact List.mem_append_left _ hx
 have ma:(a,132,#[ptr gr])∈R1:=by rw [hR1]; simp
 have mb:(b,3,#[.int .i64 (most:Int)])∈R1:=by rw [hR1]; simp
 have mc:(c,351,#[.func (.func 208) #[] #[ptr g7,ptr g4]])∈R1:=by rw [hR1]; simp
 refine Sy.rangeT (α:=Nat×List Value) (Y:=YL α) (Z:=Nat) 266 #[ptr a,ptr b,ptr c] kR kR (enters_of Tryz.func266 kR rfl) (λv=>#[.int .i64 (v.1:Int),.agg v.2.toArray]) (λ_=>rfl) (by decide)
  (HYL_dgs p rep w0 S 0 s0) (λ_ y=>LBL gc gr gl 146 y.r y.s.e y.sl R1 y.N) (λ_ _ z=>[(7,ptr gl),(9,ptr z)]) (λv y z=>(z,37,v.2.toArray)::LBL gc gr gl 146 y.r y.s.e y.sl R1 y.N) (λ_ y=>HRL_dgs rep y) (λy=>LBL gc gr gl 146 y.r y.s.e y.sl R1 y.N)
  (λy:YL α=>∃ m s1,After (varP most) s0 m s1∧s1.rest.length≤s0.rest.length∧y.l.length≤most∧InvL 37 32 rep p w0 S m s1 y.l.length y∧(y.s.e=0→y.l.length=m)) (λy=>LBL gc gr gl 146 y.r y.s.e y.sl R1 y.N) ?_ ?_ ?_ ?_
 ·exact λlp fz w hw hY=>iter_r_dgs (rep:=rep) (p:=p) hm hp w0 fz gc gr gl g4 g7 a b c most hmost R1 S s0 sl0 (λx h=>mR x (hS x h)) (mR _ h4) (mR _ h7) ma mb mc he hl hv lp w hw hY
 ·rintro lp fz ⟨i,cs⟩ ⟨l,r,s,sl,N,xo⟩ ⟨x,rfl,_,_,_,c1,c2,_⟩
  dsimp only at c1 c2 ⊢
  refine Sy.regionR (by rintro ⟨_,_,h⟩; exact h) kR ⟨_,rfl⟩ ?_
  refine sM 37 ((Z32)).toArray (λz=>?_)
  refine Sy.permS (M:=(z,37,((Z32)).toArray)::LBL gc gr gl 146 r s.e sl R1 N) (List.perm_append_comm (l₂:=[(z,37,((Z32)).toArray)])) ?_
  refine sw 0 rfl cs.toArray (Writes.row 37 cs 32 _ _ rfl kR kR kR c1 (by kernel_rfl) c2) ?_
  refine Sy.nil ?_
  exact apZ z (all_cons kR (all_cons kR all_nil)) (λ_ h=>h)
 ·rintro lp fz ⟨i,cs⟩ ⟨l,r,s,sl,N,xo⟩ z ⟨x,rfl,hli,⟨xs,x1,x2,x3⟩,hx,c1,c2,hi⟩
  dsimp only at c1 c2 hli x1 x2 x3 hx hi ⊢
  refine Sy.block ?_
  refine Sy.regionR (by rintro ⟨_,_,h⟩; exact h) kR ⟨_,rfl⟩ ?_
  refine sS r.v (qc 3 0 rfl rfl Tryz.underlying146)<|sS (.agg cs.toArray) (Quiet.mid 0 z 0 32 37 37 cs cs _ _ rfl kR rfl Tryz.underlying37 rfl kR (by rw [List.drop_zero,List.take_of_length_le (by omega)]) (by omega)) ?_
  refine Sy.make kR 37 cs.toArray (λg=>.slice (some ⟨g,0,none⟩) 1 1) (Makes.one 146 37 _ _ 32 _ cs rfl kR Tryz.underlying146 info_dgs rfl rfl c1 (by decide) (by decide)) (λg8=>?_)
  refine Sy.permS (M:=[(z,37,cs.toArray),(gc,134,#[.pointer none,ptr gr,.bool false]),(gr,253,#[sl,.int .i64 (s.e:Int)]),(gl,146,#[r.v]),(g8,37,cs.toArray)]++(r.bl++(R1++N))) (Sy.flat_perm (ls:=[[(z,37,cs.toArray),(gc,134,#[.pointer none,ptr gr,.bool false]),(gr,253,#[sl,.int .i64 (s.e:Int)]),(gl,146,#[r.v])],r.bl++(R1++N),[(g8,37,cs.toArray)]]) (ms:=[[(z,37,cs.toArray),(gc,134,#[.pointer none,ptr gr,.bool false]),(gr,253,#[sl,.int .i64 (s.e:Int)]),(gl,146,#[r.v])],[(g8,37,cs.toArray)],r.bl++(R1++N)]) [0,2,1] (by kernel_rfl) (by rfl) (by simp) (by simp)) ?_
  refine Sy.appendR kR 146 37 _ _ 32 32 Tryz.underlying146 info_dgs rfl rfl rfl rfl (by decide) _ _ rfl x1 kR cs c1 c2 4 g8 37 kR kR (by omega) (by simp only [maxLen]; omega) (λr' hr'=>?_)
  refine sw 3 rfl #[r'.v] (Writes.one 0 146 r'.v _ _ rfl kR kR kR hr'.cells.1 hr'.cells.2 Nat.zero_lt_one kR) ?_
  refine Sy.setT ?_
  refine Sy.nil<|Sy.in_ ?_
  exact bpZ ⟨l++[x],r',s,sl,N,none⟩ ⟨x,r',rfl,RowsOk.add (rep:=rep) x2 x3 hr' hx,rfl⟩ (λw h=>Sy.St.parts (ls:=[[(z,37,cs.toArray)],[(gc,134,#[.pointer none,ptr gr,.bool false]),(gr,253,#[sl,.int .i64 (s.e:Int)]),(gl,146,#[r'.v])],[(g8,37,cs.toArray)],r'.bl++(R1++N)]) (ms:=[[(gc,134,#[.pointer none,ptr gr,.bool false]),(gr,253,#[sl,.int .i64 (s.e:Int)]),(gl,146,#[r'.v])],r'.bl++(R1++N)]) [[(z,37,cs.toArray)],[(g8,37,cs.toArray)]] [1,3,0,2] (by kernel_rfl) (by rfl) (by simp) (by simp) h)
 ·rintro D fz ⟨l,r,s,sl,N,xo⟩ ⟨m,s1,hA1,hs1,hlm,hI,hdn⟩ hD hD2 hmk h0
  dsimp only at hI hdn hlm ⊢
  have hse:s.e≤200:=hI.e
  have hrest:s.rest.length≤s0.rest.length:=Nat.le_trans hI.rest hs1
  refine Sy.in_<|Sy.then_<|Sy.seq<|sC ?_
  obtain ⟨b1,hb1⟩:∃ z:Bool,z=decide (s.e≠0):=⟨_,rfl⟩
  refine sp rfl<|sS (.int .i64 (s.e:Int)) (qg (λw hw=>err_any (ab w0.world fz D) gr sl s.e [] (List.mem_cons_of_mem _ (List.mem_cons_self ..)) w hw))<|sS (.bool b1) (Quiet.pure (exec_int .neq _ _ _ .i64 _ _ _ rfl rfl rfl (int_neq _ _ _ _ _ (by rw [hb1]; exact decide_eq_decide.2 (by omega))))) ?_
  refine sG ?_
  cases b1
  ·have l1:s.e=0:=Decidable.of_not_not (of_decide_eq_false hb1.symm)
   obtain ⟨z1,z2⟩:=hI.yes l1
   rw [hdn l1] at z2
   refine sU<|Sy.skip<|sB ?_
   refine sS r.v (qc 2 0 rfl rfl Tryz.underlying146)<|sp rfl ?_
   refine sG<|Sy.ret ?_
   refine Sy.retTM1 (b0:=w0) (M:=CRN gc gr sl s.e (R++(N++r.bl))) rfl (.inl (show _=_ by kernel_rfl)) (λw h=>Sy.St.parts (ls:=[[(gc,134,#[.pointer none,ptr gr,.bool false]),(gr,253,#[sl,.int .i64 (s.e:Int)])],[(gl,146,#[r.v])],r.bl,R,[(a,132,#[ptr gr]),(b,3,#[.int .i64 (most:Int)]),(c,351,#[.func (.func 208) #[] #[ptr g7,ptr g4]])],N]) (ms:=[[(gc,134,#[.pointer none,ptr gr,.bool false]),(gr,253,#[sl,.int .i64 (s.e:Int)])],R,N,r.bl]) [[(gl,146,#[r.v])],[(a,132,#[ptr gr]),(b,3,#[.int .i64 (most:Int)]),(c,351,#[.func (.func 208) #[] #[ptr g7,ptr g4]])]] [0,3,5,2,1,4] (by kernel_rfl) (by rfl) (by rw [hR1]; simp) (by simp) h) ⟨l,s,sl,N++r.bl,hA1.bind ⟨λh=>(h z1).elim,λy q _ hy=>?_,λ_ hy=>?_⟩,RowsOk.lst (rep:=rep) hm hI.rows,hse,hrest,hI.byt,rfl⟩ hD hD2 hmk h0.out
   ·rw [z2] at hy
    cases hy
    exact ⟨rfl,by rw [← l1]⟩
   ·rw [z2] at hy; cases hy
  ·have l1:s.e≠0:=of_decide_eq_true hb1.symm
   refine sT<|sC ?_
   refine sP (.slice none 0 0) ?_
   refine sG<|Sy.ret<|Sy.then_ret ?_
   refine Sy.retTM1 (b0:=w0) (M:=CRN gc gr sl s.e (R++[])) rfl (.inl (show _=_ by kernel_rfl)) (λw h=>Sy.St.parts (ls:=[[(gc,134,#[.pointer none,ptr gr,.bool false]),(gr,253,#[sl,.int .i64 (s.e:Int)])],[(gl,146,#[r.v])],r.bl,R,[(a,132,#[ptr gr]),(b,3,#[.int .i64 (most:Int)]),(c,351,#[.func (.func 208) #[] #[ptr g7,ptr g4]])],N]) (ms:=[[(gc,134,#[.pointer none,ptr gr,.bool false]),(gr,253,#[sl,.int .i64 (s.e:Int)])],R]) [[(gl,146,#[r.v])],r.bl,[(a,132,#[ptr gr]),(b,3,#[.int .i64 (most:Int)]),(c,351,#[.func (.func 208) #[] #[ptr g7,ptr g4]])],N] [0,3,1,2,4,5] (by kernel_rfl) (by rfl) (by rw [hR1]; simp) (by simp) h) ⟨[],s,sl,[],hA1.bind ⟨λ_=>l1,λy q h1 hy=>?_,λ_ _=>l1⟩,⟨none,0,0,rfl,rfl,Nat.le_refl _,Nat.zero_le _,λh=>(h rfl).elim⟩,hse,hrest,hI.byt,rfl⟩ hD hD2 hmk h0.out
   rcases hI.no l1 with h | h
   ·exact (h h1).elim
   ·rw [h] at hy; cases hy
theorem list_r_dgs (hm:Mono rep) (hp:GetC 87 32 ((Z32)) rep p) (w0:Base) (gc gr gx f most:Nat) (hmost:most<1000000) (tx:TypeId) (A Z:List Value) (sl:Value) (s:RS) (R S:Blocks) (hS:∀ b∈S,b∈R) (hA:A.length=f) (he:s.e≤200) (hl:s.rest.length≤70368744177664) (hv:BytR (rdC w0 S) sl s.rest) (w:World) (hw:St w0 w (CRS gc gr gx tx (A++([Value.slice none 0 0]++Z)) sl s.e R)) :
  Calls Tryz.prog 169 #[ptr gc,.pointer (some ⟨gx,f,none⟩),.int .i64 (most:Int),.func (.func 87) #[] #[]] w (Turns w0 (RdT 1 (repL 32 rep) (listP most p) w0 gc gr gx tx A Z s R S)):=by
 refine Sy.enterT (args:=[ptr gc,.pointer (some ⟨gx,f,none⟩),.int .i64 (most:Int),.func (.func 87) #[] #[]]) hw Tryz.func169 rfl kL ?_
 refine sC ?_
 refine sM 85 #[ptr gc] (λg4=>?_)
 refine sM 304 #[.func (.func 87) #[] #[]] (λg7=>?_)
 obtain ⟨R1,hR1⟩:∃ R1,R1=R++([(g4,85,#[ptr gc])]++[(g7,304,#[.func (.func 87) #[] #[]])]):=⟨_,rfl⟩
 refine Sy.permS (M:=CRS gc gr gx tx (A++([Value.slice none 0 0]++Z)) sl s.e R1) (List.Perm.of_eq (by rw [hR1]; simp)) ?_
 have mR:∀ x∈R,x∈R1:=λx hx=>by rw [hR1]; exact List.mem_append_left _ hx
 have m4:(g4,85,#[ptr gc])∈R1:=by rw [hR1]; simp
 have m7:(g7,304,#[.func (.func 87) #[] #[]])∈R1:=by rw [hR1]; simp
 refine sG<|Sy.seq<|sC ?_
 refine sS (ptr gc) (cellC (R:=R1) (mem1 m4) inCR rfl Tryz.underlying85)<|sS (.bool true) (qg (λw hw=>reads_r w0.inn gc gr _ _ (List.mem_cons_self ..) w hw)) ?_
 refine sG<|sT<|sC ?_
 refine sp rfl<|sS (ptr gc) (cellC (R:=R1) (mem1 m4) inCR rfl Tryz.underlying85)<|sp rfl<|sP (.pointer (some ⟨gc,1,none⟩))<|sS (ptr gr) (qc 0 1 rfl rfl Tryz.underlying132)<|sp rfl<|sP (.func (.func 208) #[] #[ptr g7,ptr g4]) ?_
 refine Sy.callT (λw hw=>list9_r_dgs (rep:=rep) (p:=p) hm hp w0.inn gc gr g4 g7 most hmost sl s ((gx,tx,(A++([Value.slice none 0 0]++Z)).toArray)::R1) S (λx h=>List.mem_cons_of_mem _ (mR x (hS x h))) (List.mem_cons_of_mem _ m4) (List.mem_cons_of_mem _ m7) he hl hv w (hw.perm swap23)) (λv M hM=>?_)
 obtain ⟨l,s',sl',N,q1,q2,q3,q4,q5,rfl⟩:=hM
 refine Sy.permS (M:=CRS gc gr gx tx (A++([Value.slice none 0 0]++Z)) sl' s'.e (R1++N)) swap23 ?_
 refine sp rfl<|sw 1 rfl (A++([v]++Z)).toArray (Writes.one f 146 v _ _ rfl kR kR kR q2.cells.1 q2.cells.2 (by rw [List.size_toArray,List.length_append,hA]; exact Nat.lt_add_of_pos_right (Nat.succ_pos _)) (set_mid hA)) ?_
 refine sG<|Sy.ret<|Sy.then_ret ?_
 exact Sy.retT0 rfl (CRS gc gr gx tx (A++([v]++Z)) sl' s'.e (R++N)) (λw h=>Sy.St.parts (ls:=[[(gc,134,#[.pointer none,ptr gr,.bool false]),(gx,tx,(A++([v]++Z)).toArray),(gr,253,#[sl',.int .i64 (s'.e:Int)])],R,[(g4,85,#[ptr gc])]++[(g7,304,#[.func (.func 87) #[] #[]])],N]) (ms:=[[(gc,134,#[.pointer none,ptr gr,.bool false]),(gx,tx,(A++([v]++Z)).toArray),(gr,253,#[sl',.int .i64 (s'.e:Int)])],R,N]) [[(g4,85,#[ptr gc])]++[(g7,304,#[.func (.func 87) #[] #[]])]] [0,1,3,2] (by kernel_rfl) (by rfl) (by rw [hR1]; simp) (by simp) h) (λ_=>⟨l,s',sl',[v],N,q1,rfl,λu hu=>by rw [List.mem_singleton.1 hu]; exact q2.cells.2,⟨v,rfl,q2⟩,q3,q4,q5,rfl⟩)
end
end Wr
end
end Go.Proofs.YtdbcombmmnihbaaGreat
