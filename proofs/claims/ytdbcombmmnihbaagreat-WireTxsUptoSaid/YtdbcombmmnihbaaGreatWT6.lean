/-
  Texts of ours, put together: WirDF, WirDG, WirEA, WirEB, WirP, WirQ, WirR, WirS, WirT, WirU, WirV, WirW, WirBC, WirBD, WirCE, WirCF, CrvY, RefNumber.
-/
import Derived.Test.YtdbcombmmnihbaaGreatWT5
set_option linter.unusedVariables false
set_option linter.unusedSimpArgs false
set_option maxRecDepth 100000
set_option maxHeartbeats 80000000
namespace Go.Proofs.YtdbcombmmnihbaaGreat
section
namespace Wr
open Go.RowKit Sy
theorem After.mustX {α:Type} (f:Unit→Ps α) (y:α) {s s':RS} (h:s'.e≠0):After (AJ (BJ false) f) s y s':=⟨λ_=>h,λz r _ hp=>(by cases hp),λ_ _=>h⟩
theorem After.mustY {α:Type} {f:Unit→Ps α} {b:Bool} {y:α} {s s':RS} (hb:b=true) (h:After (f ()) s y s'):After (AJ (BJ b) f) s y s':=by subst hb; exact h
theorem JU:∀ u∈[Value.slice none 0 0],u.oneCell'=true:=λu hu=>by rw [List.mem_singleton.1 hu]; rfl
theorem UJ:B4 46 58 ([Value.int .i64 0]++(([Value.bool false]++(Z32++lPT ⟨0,0,false⟩))++(([Value.bool false]++([Value.int .u64 0]++lPT ⟨0,0,false⟩))++([Value.slice none 0 0]++([Value.slice none 0 0]++([Value.slice none 0 0]++([Value.slice none 0 0]))))))) Cf GM:=λw0 gc gr gx f tx A Z sl s R S hS hA he hl hv w hw=>by
 refine Sy.enterT (args:=[ptr gc,pT gx f]) hw Tryz.func46 J kL<|sC<|sp J<|sp J<|sp J<|sP (pT gx f)<|Sy.callT (λw hw=>G0 w0.inn gc gr gx f tx A (([Value.bool false]++(Z32++lPT ⟨0,0,false⟩))++(([Value.bool false]++([Value.int .u64 0]++lPT ⟨0,0,false⟩))++([Value.slice none 0 0]++([Value.slice none 0 0]++([Value.slice none 0 0]++([Value.slice none 0 0]++(Z))))))) sl s R S hS hA he hl hv w (by simpa only [List.append_assoc] using hw)) (λu M hM=>?_)
 obtain ⟨x1,s1,sl1,cs1,N1,a1,n1,o1,rfl,e1,h1,y1,rfl⟩:=hM
 have g1:s1.rest.length≤s.rest.length:=h1
 have A1:(A++[Value.int .i64 x1]).length=f+1:=by rw [List.length_append,hA,n1]
 refine sA<|sp J<|sp J<|sP (pT gx f)<|sS (.int .i64 x1) (Quiet.cell 1 gx f tx 3 (A++([Value.int .i64 x1]++(([Value.bool false]++(Z32++lPT ⟨0,0,false⟩))++(([Value.bool false]++([Value.int .u64 0]++lPT ⟨0,0,false⟩))++([Value.slice none 0 0]++([Value.slice none 0 0]++([Value.slice none 0 0]++([Value.slice none 0 0]++(Z))))))))).toArray _ _ J kR J uy3 J _ (by rw [List.getElem?_toArray,List.getElem?_append_right om,hA,Nat.sub_self]; rfl)) ?_
 refine sG<|Sy.block<|Sy.seq<|Sy.block ?_
 by_cases hk:x1=1∨x1=2∨x1=3∨x1=4
 ·obtain ⟨k1,k2⟩:=Mb hk
  refine Sy.seq<|De [(0,ptr gc),(1,pT gx f)] (CRS gc gr gx tx (A++([Value.int .i64 x1]++(([Value.bool false]++(Z32++lPT ⟨0,0,false⟩))++(([Value.bool false]++([Value.int .u64 0]++lPT ⟨0,0,false⟩))++([Value.slice none 0 0]++([Value.slice none 0 0]++([Value.slice none 0 0]++([Value.slice none 0 0]++(Z))))))))) sl1 s1.e (R++N1)) ?_ ?_
  ·clear a1 n1 o1 A1 k1 k2
   rcases hk with rfl|rfl|rfl|rfl
   ·refine Sy.block<|Sy.block<|Sy.block<|Sy.block<|Sy.seq<|Sy.seq<|sC ?_
    refine sP (.bool true)<|sp J<|sG<|sT<|Sy.exit<|Sy.then_exit<|Sy.then_exit<|Sy.in_exit<|Sy.in_<|Sy.in_<|Sy.in_ ?_
    exact BK ac2 (λ_ h=>h)
   ·refine Sy.block<|Sy.block<|Sy.block<|Sy.block<|Sy.seq<|Sy.seq<|sC ?_
    refine sP (.bool false)<|sp J<|sG<|sU<|Sy.skip<|Sy.then_<|Sy.seq<|sC<|sP (.bool true)<|sp J<|sG<|sT<|Sy.exit<|Sy.then_exit<|Sy.then_exit<|Sy.in_pass (by decide)<|Sy.in_exit<|Sy.in_<|Sy.in_ ?_
    exact BK ac2 (λ_ h=>h)
   ·refine Sy.block<|Sy.block<|Sy.block<|Sy.block<|Sy.seq<|Sy.seq<|sC ?_
    refine sP (.bool false)<|sp J<|sG<|sU<|Sy.skip<|Sy.then_<|Sy.seq<|sC<|sP (.bool false)<|sp J<|sG<|sU<|Sy.skip<|Sy.then_<|Sy.seq<|sC<|sP (.bool true)<|sp J<|sG<|sT<|Sy.exit<|Sy.then_exit<|Sy.then_exit<|Sy.in_pass (by decide)<|Sy.in_pass (by decide)<|Sy.in_exit<|Sy.in_ ?_
    exact BK ac2 (λ_ h=>h)
   ·refine Sy.block<|Sy.block<|Sy.block<|Sy.block<|Sy.seq<|Sy.seq<|sC ?_
    refine sP (.bool false)<|sp J<|sG<|sU<|Sy.skip<|Sy.then_<|Sy.seq<|sC<|sP (.bool false)<|sp J<|sG<|sU<|Sy.skip<|Sy.then_<|Sy.seq<|sC<|sP (.bool false)<|sp J<|sG<|sU<|Sy.skip<|Sy.then_<|sC<|sP (.bool true)<|sp J<|sG<|sT<|Sy.exit<|Sy.then_exit<|Sy.in_pass (by decide)<|Sy.in_pass (by decide)<|Sy.in_pass dZ ?_
    refine Sy.in_exit ?_
    exact BK ac2 (λ_ h=>h)
  refine Sy.then_<|Sy.seq<|sC<|sp J<|sp J<|sp J<|sP (pT gx (f+1))<|Sy.callT (λw hw=>Tz w0.inn gc gr gx (f+1) tx (A++[Value.int .i64 x1]) (([Value.bool false]++([Value.int .u64 0]++lPT ⟨0,0,false⟩))++([Value.slice none 0 0]++([Value.slice none 0 0]++([Value.slice none 0 0]++([Value.slice none 0 0]++(Z)))))) sl1 s1 (R++N1) S (λb h=>List.mem_append_left _ (hS b h)) A1 e1 (Nat.le_trans g1 hl) y1 w (by have e:A++[Value.int .i64 x1]++(([Value.bool false]++(Z32++lPT ⟨0,0,false⟩))++(([Value.bool false]++([Value.int .u64 0]++lPT ⟨0,0,false⟩))++([Value.slice none 0 0]++([Value.slice none 0 0]++([Value.slice none 0 0]++([Value.slice none 0 0]++(Z)))))))=A++([Value.int .i64 x1]++(([Value.bool false]++(Z32++lPT ⟨0,0,false⟩))++(([Value.bool false]++([Value.int .u64 0]++lPT ⟨0,0,false⟩))++([Value.slice none 0 0]++([Value.slice none 0 0]++([Value.slice none 0 0]++([Value.slice none 0 0]++(Z)))))))):=List.append_assoc ..; rw [e]; exact hw)) (λu M hM=>?_)
  obtain ⟨x2,s2,sl2,cs2,N2,a2,n2,o2,⟨rfl,r2⟩,e2,h2,y2,rfl⟩:=hM
  have g2:s2.rest.length≤s.rest.length:=Nat.le_trans h2 g1
  have A2:(A++[Value.int .i64 x1]++(cTG x2)).length=f+43:=by rw [List.length_append,A1,n2]
  refine sA<|sp J<|sp J<|sp J<|sP (pT gx (f+43))<|Sy.callT (λw hw=>Ky w0.inn gc gr gx (f+43) tx (A++[Value.int .i64 x1]++(cTG x2)) ([Value.slice none 0 0]++([Value.slice none 0 0]++([Value.slice none 0 0]++([Value.slice none 0 0]++(Z))))) sl2 s2 (R++N1++N2) S (λb h=>List.mem_append_left _ (List.mem_append_left _ (hS b h))) A2 e2 (Nat.le_trans g2 hl) y2 w (by have e:A++[Value.int .i64 x1]++(cTG x2)++(([Value.bool false]++([Value.int .u64 0]++lPT ⟨0,0,false⟩))++([Value.slice none 0 0]++([Value.slice none 0 0]++([Value.slice none 0 0]++([Value.slice none 0 0]++(Z))))))=A++[Value.int .i64 x1]++(cTG x2++(([Value.bool false]++([Value.int .u64 0]++lPT ⟨0,0,false⟩))++([Value.slice none 0 0]++([Value.slice none 0 0]++([Value.slice none 0 0]++([Value.slice none 0 0]++(Z))))))):=List.append_assoc ..; rw [e]; exact hw)) (λu M hM=>?_)
  obtain ⟨x3,s3,sl3,cs3,N3,a3,n3,o3,⟨rfl,r3⟩,e3,h3,y3,rfl⟩:=hM
  have g3:s3.rest.length≤s.rest.length:=Nat.le_trans h3 g2
  have A3:(A++[Value.int .i64 x1]++(cTG x2)++(cAM x3)).length=f+54:=by rw [List.length_append,A2,n3]
  refine sA<|sp J<|sp J<|sp J<|sP (pT gx (f+54))<|Sy.callT (λw hw=>Ef 6000 dZ w0.inn gc gr gx (f+54) tx (A++[Value.int .i64 x1]++(cTG x2)++(cAM x3)) ([Value.slice none 0 0]++([Value.slice none 0 0]++([Value.slice none 0 0]++(Z)))) sl3 s3 (R++N1++N2++N3) S (λb h=>List.mem_append_left _ (List.mem_append_left _ (List.mem_append_left _ (hS b h)))) A3 e3 (Nat.le_trans g3 hl) y3 w (by have e:A++[Value.int .i64 x1]++(cTG x2)++(cAM x3)++([Value.slice none 0 0]++([Value.slice none 0 0]++([Value.slice none 0 0]++([Value.slice none 0 0]++(Z)))))=A++[Value.int .i64 x1]++(cTG x2)++(cAM x3++([Value.slice none 0 0]++([Value.slice none 0 0]++([Value.slice none 0 0]++([Value.slice none 0 0]++(Z)))))):=List.append_assoc ..; rw [e]; exact hw)) (λu M hM=>?_)
  obtain ⟨x4,s4,sl4,cs4,N4,a4,n4,o4,⟨v4,rfl,r4⟩,e4,h4,y4,rfl⟩:=hM
  have g4:s4.rest.length≤s.rest.length:=Nat.le_trans h4 g3
  have A4:(A++[Value.int .i64 x1]++(cTG x2)++(cAM x3)++[v4]).length=f+55:=by rw [List.length_append,A3,n4]
  refine sA<|sp J<|sp J<|sp J<|sP (pT gx (f+55))<|Sy.callT (λw hw=>Ef 6000 dZ w0.inn gc gr gx (f+55) tx (A++[Value.int .i64 x1]++(cTG x2)++(cAM x3)++[v4]) ([Value.slice none 0 0]++([Value.slice none 0 0]++(Z))) sl4 s4 (R++N1++N2++N3++N4) S (λb h=>List.mem_append_left _ (List.mem_append_left _ (List.mem_append_left _ (List.mem_append_left _ (hS b h))))) A4 e4 (Nat.le_trans g4 hl) y4 w (by have e:A++[Value.int .i64 x1]++(cTG x2)++(cAM x3)++[v4]++([Value.slice none 0 0]++([Value.slice none 0 0]++([Value.slice none 0 0]++(Z))))=A++[Value.int .i64 x1]++(cTG x2)++(cAM x3)++([v4]++([Value.slice none 0 0]++([Value.slice none 0 0]++([Value.slice none 0 0]++(Z))))):=List.append_assoc ..; rw [e]; exact hw)) (λu M hM=>?_)
  obtain ⟨x5,s5,sl5,cs5,N5,a5,n5,o5,⟨v5,rfl,r5⟩,e5,h5,y5,rfl⟩:=hM
  have g5:s5.rest.length≤s.rest.length:=Nat.le_trans h5 g4
  have A5:(A++[Value.int .i64 x1]++(cTG x2)++(cAM x3)++[v4]++[v5]).length=f+56:=by rw [List.length_append,A4,n5]
  refine sA<|sp J<|sp J<|sp J<|sP (pT gx (f+56))<|Sy.callT (λw hw=>Ef 128 dZ w0.inn gc gr gx (f+56) tx (A++[Value.int .i64 x1]++(cTG x2)++(cAM x3)++[v4]++[v5]) ([Value.slice none 0 0]++(Z)) sl5 s5 (R++N1++N2++N3++N4++N5) S (λb h=>List.mem_append_left _ (List.mem_append_left _ (List.mem_append_left _ (List.mem_append_left _ (List.mem_append_left _ (hS b h)))))) A5 e5 (Nat.le_trans g5 hl) y5 w (by have e:A++[Value.int .i64 x1]++(cTG x2)++(cAM x3)++[v4]++[v5]++([Value.slice none 0 0]++([Value.slice none 0 0]++(Z)))=A++[Value.int .i64 x1]++(cTG x2)++(cAM x3)++[v4]++([v5]++([Value.slice none 0 0]++([Value.slice none 0 0]++(Z)))):=List.append_assoc ..; rw [e]; exact hw)) (λu M hM=>?_)
  obtain ⟨x6,s6,sl6,cs6,N6,a6,n6,o6,⟨v6,rfl,r6⟩,e6,h6,y6,rfl⟩:=hM
  have g6:s6.rest.length≤s.rest.length:=Nat.le_trans h6 g5
  have A6:(A++[Value.int .i64 x1]++(cTG x2)++(cAM x3)++[v4]++[v5]++[v6]).length=f+57:=by rw [List.length_append,A5,n6]
  refine Sy.nil<|Sy.then_<|Sy.region<|sp J<|sp J<|sp J<|sP (pT gx (f+57))<|Sy.callT (λw hw=>Ef 256 dZ w0.inn gc gr gx (f+57) tx (A++[Value.int .i64 x1]++(cTG x2)++(cAM x3)++[v4]++[v5]++[v6]) Z sl6 s6 (R++N1++N2++N3++N4++N5++N6) S (λb h=>List.mem_append_left _ (List.mem_append_left _ (List.mem_append_left _ (List.mem_append_left _ (List.mem_append_left _ (List.mem_append_left _ (hS b h))))))) A6 e6 (Nat.le_trans g6 hl) y6 w (by have e:A++[Value.int .i64 x1]++(cTG x2)++(cAM x3)++[v4]++[v5]++[v6]++([Value.slice none 0 0]++(Z))=A++[Value.int .i64 x1]++(cTG x2)++(cAM x3)++[v4]++[v5]++([v6]++([Value.slice none 0 0]++(Z))):=List.append_assoc ..; rw [e]; exact hw)) (λu M hM=>?_)
  obtain ⟨x7,s7,sl7,cs7,N7,a7,n7,o7,⟨v7,rfl,r7⟩,e7,h7,y7,rfl⟩:=hM
  have g7:s7.rest.length≤s.rest.length:=Nat.le_trans h7 g6
  have A7:(A++[Value.int .i64 x1]++(cTG x2)++(cAM x3)++[v4]++[v5]++[v6]++[v7]).length=f+58:=by rw [List.length_append,A6,n7]
  refine Sy.nil<|Sy.then_<|Sy.exit<|Sy.in_pass (by decide)<|Sy.then_exit<|Sy.in_exit ?_
  have hAf:After GM s ⟨x1,x2,x3,x4,x5,x6,x7⟩ s7:=a1.bind (After.mustY k1 (a2.bind (a3.bind (a4.bind (a5.bind (a6.bind (a7.bind (After.ret _ _))))))))
  have hLn:([Value.int .i64 x1]++(cTG x2++(cAM x3++([v4]++([v5]++([v6]++([v7]))))))).length=58:=by simp only [List.length_append,n2,n3]; rfl
  have hOn:∀ u∈([Value.int .i64 x1]++(cTG x2++(cAM x3++([v4]++([v5]++([v6]++([v7]))))))),u.oneCell'=true:=AG o1 (AG o2 (AG o3 (AG o4 (AG o5 (AG o6 o7)))))
  have hRp:Cf (rdB (N1++(N2++(N3++(N4++(N5++(N6++N7))))))) ([Value.int .i64 x1]++(cTG x2++(cAM x3++([v4]++([v5]++([v6]++([v7]))))))) ⟨x1,x2,x3,x4,x5,x6,x7⟩:=⟨v4,v5,v6,v7,rfl,r2,r3,r4.le (Ac λb h=>by simp [h]),r5.le (Ac λb h=>by simp [h]),r6.le (Ac λb h=>by simp [h]),r7.le (Ac λb h=>by simp [h])⟩
  exact Sy.retT0 J (CRS gc gr gx tx (A++(([Value.int .i64 x1]++(cTG x2++(cAM x3++([v4]++([v5]++([v6]++([v7])))))))++Z)) sl7 s7.e (R++(N1++(N2++(N3++(N4++(N5++(N6++N7)))))))) (λ_ h=>by simpa only [List.append_assoc,List.cons_append,List.nil_append] using h) (λ_=>⟨_,s7,sl7,_,_,hAf,hLn,hOn,hRp,e7,g7,y7,rfl⟩)
 refine Sy.seq<|Sy.block<|Sy.block<|Sy.block<|Sy.block<|Sy.seq<|Sy.seq<|sC<|sS (.bool false) (Quiet.pure (AD .eql _ _ _ .i64 _ _ _ J J J (Ab _ _ _ _ _ (decide_eq_false (λe=>hk (by simp [e]))))))<|sp J<|sG<|sU<|Sy.skip<|Sy.then_<|Sy.seq<|sC<|sS (.bool false) (Quiet.pure (AD .eql _ _ _ .i64 _ _ _ J J J (Ab _ _ _ _ _ (decide_eq_false (λe=>hk (by simp [e]))))))<|sp J<|sG<|sU<|Sy.skip<|Sy.then_<|Sy.seq<|sC<|sS (.bool false) (Quiet.pure (AD .eql _ _ _ .i64 _ _ _ J J J (Ab _ _ _ _ _ (decide_eq_false (λe=>hk (by simp [e]))))))<|sp J<|sG<|sU<|Sy.skip<|Sy.then_<|sC<|sS (.bool false) (Quiet.pure (AD .eql _ _ _ .i64 _ _ _ J J J (Ab _ _ _ _ _ (decide_eq_false (λe=>hk (by simp [e]))))))<|sp J<|sG<|sU<|Sy.skip<|Sy.then_<|Sy.exit<|Sy.in_pass (by decide)<|Sy.in_pass dZ ?_
 refine Sy.in_pass (by decide)<|Sy.in_pass (by decide)<|Sy.then_exit<|Sy.in_exit<|sB<|sp J ?_
 have p5:(CRS gc gr gx tx (A++([Value.int .i64 x1]++(([Value.bool false]++(Z32++lPT ⟨0,0,false⟩))++(([Value.bool false]++([Value.int .u64 0]++lPT ⟨0,0,false⟩))++([Value.slice none 0 0]++([Value.slice none 0 0]++([Value.slice none 0 0]++([Value.slice none 0 0]++(Z))))))))) sl1 s1.e (R++N1)).Perm (CRN gc gr sl1 s1.e ((gx,tx,(A++([Value.int .i64 x1]++(([Value.bool false]++(Z32++lPT ⟨0,0,false⟩))++(([Value.bool false]++([Value.int .u64 0]++lPT ⟨0,0,false⟩))++([Value.slice none 0 0]++([Value.slice none 0 0]++([Value.slice none 0 0]++([Value.slice none 0 0]++(Z))))))))).toArray)::(R++N1))):=BU
 refine Sy.permS p5<|Sy.callT (λw hw=>C5 w0.inn gc gr sl1 s1.e e1 ((gx,tx,(A++([Value.int .i64 x1]++(([Value.bool false]++(Z32++lPT ⟨0,0,false⟩))++(([Value.bool false]++([Value.int .u64 0]++lPT ⟨0,0,false⟩))++([Value.slice none 0 0]++([Value.slice none 0 0]++([Value.slice none 0 0]++([Value.slice none 0 0]++(Z))))))))).toArray)::(R++N1)) false w hw) (λu M hM=>?_)
 subst hM
 obtain ⟨e2,he2⟩:=xE (if false=true then s1.e else if s1.e=0 then 120 else s1.e)
 rw [← he2]
 rw [if_neg dZ] at he2
 have he3:e2≠0:=by rw [he2]; split <;> omega
 have he4:e2≤200:=by rw [he2]; split <;> omega
 refine sG<|Sy.exit<|Sy.in_exit ?_
 have p6:(CRN gc gr sl1 e2 ((gx,tx,(A++([Value.int .i64 x1]++(([Value.bool false]++(Z32++lPT ⟨0,0,false⟩))++(([Value.bool false]++([Value.int .u64 0]++lPT ⟨0,0,false⟩))++([Value.slice none 0 0]++([Value.slice none 0 0]++([Value.slice none 0 0]++([Value.slice none 0 0]++(Z))))))))).toArray)::(R++N1))).Perm (CRS gc gr gx tx (A++([Value.int .i64 x1]++(([Value.bool false]++(Z32++lPT ⟨0,0,false⟩))++(([Value.bool false]++([Value.int .u64 0]++lPT ⟨0,0,false⟩))++([Value.slice none 0 0]++([Value.slice none 0 0]++([Value.slice none 0 0]++([Value.slice none 0 0]++(Z))))))))) sl1 e2 (R++N1)):=BU
 have hno:okK x1=false:=LN hk
 have hAf:After GM s ⟨x1,⟨false,z32,⟨0,0,false⟩⟩,⟨false,0,⟨0,0,false⟩⟩,[],[],[],[]⟩ ⟨s1.rest,e2⟩:=a1.bind (by rw [hno]; exact After.mustX _ _ he3)
 have hLn:([Value.int .i64 x1]++(([Value.bool false]++(Z32++lPT ⟨0,0,false⟩))++(([Value.bool false]++([Value.int .u64 0]++lPT ⟨0,0,false⟩))++([Value.slice none 0 0]++([Value.slice none 0 0]++([Value.slice none 0 0]++([Value.slice none 0 0]))))))).length=58:=rfl
 have hOn:∀ u∈([Value.int .i64 x1]++(([Value.bool false]++(Z32++lPT ⟨0,0,false⟩))++(([Value.bool false]++([Value.int .u64 0]++lPT ⟨0,0,false⟩))++([Value.slice none 0 0]++([Value.slice none 0 0]++([Value.slice none 0 0]++([Value.slice none 0 0]))))))),u.oneCell'=true:=AG o1 (AG (AG (λu hu=>by rw [List.mem_singleton.1 hu]; rfl) (AG (Bw z32) (CD _))) (AG (AG (λu hu=>by rw [List.mem_singleton.1 hu]; rfl) (AG (λu hu=>by rw [List.mem_singleton.1 hu]; rfl) (CD _))) (AG JU (AG JU (AG JU JU)))))
 have hRp:Cf (rdB N1) ([Value.int .i64 x1]++(([Value.bool false]++(Z32++lPT ⟨0,0,false⟩))++(([Value.bool false]++([Value.int .u64 0]++lPT ⟨0,0,false⟩))++([Value.slice none 0 0]++([Value.slice none 0 0]++([Value.slice none 0 0]++([Value.slice none 0 0]))))))) ⟨x1,⟨false,z32,⟨0,0,false⟩⟩,⟨false,0,⟨0,0,false⟩⟩,[],[],[],[]⟩:=⟨.slice none 0 0,.slice none 0 0,.slice none 0 0,.slice none 0 0,rfl,⟨rfl,(show 0<Cu.K4 by decide),(show 0<Cu.K4 by decide)⟩,⟨(show (0:Nat)<18446744073709551616 by decide),(show 0<Cu.K4 by decide),(show 0<Cu.K4 by decide)⟩,BytR.nil _,BytR.nil _,BytR.nil _,BytR.nil _⟩
 have hcs:A++(([Value.int .i64 x1]++(([Value.bool false]++(Z32++lPT ⟨0,0,false⟩))++(([Value.bool false]++([Value.int .u64 0]++lPT ⟨0,0,false⟩))++([Value.slice none 0 0]++([Value.slice none 0 0]++([Value.slice none 0 0]++([Value.slice none 0 0])))))))++Z)=A++([Value.int .i64 x1]++(([Value.bool false]++(Z32++lPT ⟨0,0,false⟩))++(([Value.bool false]++([Value.int .u64 0]++lPT ⟨0,0,false⟩))++([Value.slice none 0 0]++([Value.slice none 0 0]++([Value.slice none 0 0]++([Value.slice none 0 0]++(Z)))))))):=by simp only [List.append_assoc]
 exact Sy.retT0 J (CRS gc gr gx tx (A++(([Value.int .i64 x1]++(([Value.bool false]++(Z32++lPT ⟨0,0,false⟩))++(([Value.bool false]++([Value.int .u64 0]++lPT ⟨0,0,false⟩))++([Value.slice none 0 0]++([Value.slice none 0 0]++([Value.slice none 0 0]++([Value.slice none 0 0])))))))++Z)) sl1 e2 (R++N1)) (λ_ h=>by rw [hcs]; exact h.perm p6) (λ_=>⟨_,⟨s1.rest,e2⟩,sl1,_,N1,hAf,hLn,hOn,hRp,he4,h1,y1,rfl⟩)
theorem UP {C:Rdr} {cs:List Value} {t:MOu} (h:Cf C cs t):∀ u∈cs,u.oneCell'=true:=by
 obtain ⟨vr,vs,vn,vc,rfl,_,_,h1,h2,h3,h4⟩:=h
 exact AG (λu hu=>by rw [List.mem_singleton.1 hu]; rfl) (AG (AG (λu hu=>by rw [List.mem_singleton.1 hu]; rfl) (AG (Bw _) (CD _))) (AG (AG (λu hu=>by rw [List.mem_singleton.1 hu]; rfl) (AG (λu hu=>by rw [List.mem_singleton.1 hu]; rfl) (CD _))) (AG (λu hu=>by rw [List.mem_singleton.1 hu]; exact h1.cells.2) (AG (λu hu=>by rw [List.mem_singleton.1 hu]; exact h2.cells.2) (AG (λu hu=>by rw [List.mem_singleton.1 hu]; exact h3.cells.2) (λu hu=>by rw [List.mem_singleton.1 hu]; exact h4.cells.2))))))
section
variable {α:Type} {rep:Rdr→List Value→α→Prop} {ok:α→Bool} {enc:α→Byt} {wt:α→Nat}
theorem QJ (hm:BI rep) (hp:IK 46 58 rep ok enc wt) (w0:Base) (gc gw g4 g7:Nat) (bad:Bool) (s:Slc) (R:AA) (b:Byt) (u:Value) (cs:List Value) (x:α) (h4:(g4,85,#[ptr gc])∈R) (h7:(g7,115,#[.func (.func 46) #[] #[]])∈R) (hx:rep (rdC w0 R) cs x) (hl:cs.length=58) (hb:BS s b) (hlen:b.length+wt x≤70368744170000) (w:World) (hw:St w0 w (CWS gc gw bad s R)) :
  AL 114 #[u,.agg cs.toArray,ptr g7,ptr g4] w (AQ w0 (WrC gc gw R (ok x) (enc x) (wt x) bad b)):=by
 refine Sy.enterT (args:=[u,.agg cs.toArray,ptr g7,ptr g4]) hw Tryz.func114 J kL<|sC<|sM 63 cs.toArray (λg5=>?_) kR (λw=>An J J kZ hl w)
 refine Sy.permS (List.Perm.of_eq eqCW)<|Sy.nil<|Sy.then_<|Sy.region<|sS (.func (.func 46) #[] #[]) (AH (R:=R++[(g5,63,cs.toArray)]) (Aj (inA h7)) Ar J SY)<|sS (ptr gc) (AH (R:=R++[(g5,63,cs.toArray)]) (Aj (inA h4)) Ar J CA)<|Sy.callT (λw hw=>hp w0.inn gc gw g5 0 bad s (R++[(g5,63,cs.toArray)]) b cs x (hm (B1 (λ_ h=>inA h)) hx) hl (UH CM) hb hlen w hw) (λv M hM=>?_)
 obtain ⟨s1,bad1,b1,h1,h2,rfl⟩:=hM
 refine Sy.nil ?_
 exact Sy.retT0 J (CWS gc gw bad1 s1 R) (λ_ h=>C1 h) (λ_=>⟨s1,bad1,b1,h1,h2,rfl⟩)
end
section
variable {α:Type} {rep:Rdr→List Value→α→Prop} {ok:α→Bool} {enc:α→Byt} {wt:α→Nat}
theorem Nk (hm:BI rep) (hp:IK 46 58 rep ok enc wt) (w0:Base) (gc gw g4 g7:Nat) (bad:Bool) (s:Slc) (R:AA) (b:Byt) (v:Value) (l:List α) (h4:(g4,85,#[ptr gc])∈R) (h7:(g7,115,#[.func (.func 46) #[] #[]])∈R) (hv:LstR (rdC w0 R) 58 rep v l) (hb:BS s b) (hlen:b.length+(9+(l.map wt).sum)≤70368744170000) (w:World) (hw:St w0 w (CWS gc gw bad s R)) :
  AL 113 #[ptr gw,v,.func (.func 114) #[] #[ptr g7,ptr g4]] w (AQ w0 (WrC gc gw R (l.all ok) (Af l.length++l.flatMap enc) (9+(l.map wt).sum) bad b)):=by
 obtain ⟨A,n,cp,rfl,h2,h3,h4',h5⟩:=hv
 have hmx:n<9223372036854775808:=by simp only [maxLen] at h4'; omega
 refine Sy.enterT (args:=[ptr gw,.slice A n cp,.func (.func 114) #[] #[ptr g7,ptr g4]]) hw Tryz.func113 J kL<|sC<|sp J<|sp J<|sP (.int .i64 (n:Int))<|sS (uZ (n:Int)) (Quiet.pure (λw=>Ce w _ _ _ n om J J))<|Sy.callT (λw hw=>Ev w0.inn gw s ((gc,134,#[ptr gw,.pointer none,.bool bad])::R) b n om hb om w (hw.perm permCW)) (λu M hM=>?_)
 obtain ⟨s1,hs1,rfl⟩:=hM
 have hn9:=Cj n
 refine Sy.permS permCW.symm<|Sy.nil<|sB<|sp J<|sP (.int .i64 (n:Int))<|sP (.int .i64 0)<|sG<|Sy.block ?_
 have hw0:Wrote true (Af n) 9 bad b bad (b++Af n):=Wrote.raw _ _ _ hn9
 have hsum:∀ i,((l.take i).map wt).sum≤(l.map wt).sum:=λi=>by
  have e:=congrArg (λz=>(z.map wt).sum) (List.take_append_drop i l)
  simp only [List.map_append,List.sum_append] at e
  omega
 refine Sy.loopT (Y:=Slc×Bool×Byt) n (λi y=>[(0,ptr gw),(2,.func (.func 114) #[] #[ptr g7,ptr g4]),(13,.slice A n cp),(14,.int .i64 (n:Int)),(15,.int .i64 (i:Int))]) (λi y=>CWS gc gw y.2.1 y.1 R) (λi y=>Wrote ((l.take i).all ok) (Af n++(l.take i).flatMap enc) (9+((l.take i).map wt).sum) bad b y.2.1 y.2.2∧BS y.1 y.2.2) (s1,bad,b++Af n) ⟨by
  have e:Wrote ((l.take 0).all ok) (Af n++(l.take 0).flatMap enc) (9+((l.take 0).map wt).sum) bad b bad (b++Af n):=by
   rw [List.take_zero]
   simpa using hw0
  exact e,hs1⟩ ac5 (λ_ h=>h) (λi y hi hy=>?_)
 obtain ⟨sy,bady,by_⟩:=y
 obtain ⟨hy,hsy⟩:=hy
 dsimp only at hy hsy ⊢
 refine sC ?_
 obtain ⟨b2,hb2⟩:=xE (decide (i<n))
 refine sS (.bool b2) (qls J J J hb2)<|sG<|Sy.seq ?_
 cases b2
 case' false =>
  have l2:=dN hb2
  obtain rfl:i=n:=om
  rw [List.take_of_length_le om] at hy
  refine sU<|Sy.exit<|Sy.then_exit<|Sy.then_exit<|Sy.in_exit ?_
  rw [h2]
  exact Sy.retT0 J (CWS gc gw bady sy R) (λ_ h=>h) (λ_=>⟨sy,bady,by_,hy,hsy,rfl⟩)
 have l2:=dY hb2
 obtain ⟨x,hx⟩:∃ x,l[i]? = some x:=⟨_,List.getElem?_eq_getElem om⟩
 obtain ⟨g,o,rfl,hq⟩:=h5 (by intro e; rw [e] at hx; cases hx)
 obtain ⟨cs,c1,c2,c3,c4⟩:=hq i x hx
 have htk:l.take (i+1)=l.take i++[x]:=by rw [List.take_add_one,hx]; rfl
 have hsi:=hsum (i+1)
 rw [htk] at hsi
 simp only [List.map_append,List.sum_append,List.map_cons,List.map_nil,List.sum_cons,List.sum_nil] at hsi
 refine sT<|Sy.skip<|Sy.then_<|Sy.seq<|Sy.block<|sC<|sS (.pointer (some ⟨g,o+i*58,none⟩)) (Quiet.pure (Bl 24 _ _ _ (some ⟨g,o,none⟩) g o n cp i 58 .i64 J J J J EL kF l2))<|sS (.agg cs.toArray) (Bd (R:=R) c4 Ar c1 J G')<|sM 63 ([Value.int .i64 0]++(([Value.bool false]++(Z32++lPT ⟨0,0,false⟩))++(([Value.bool false]++([Value.int .u64 0]++lPT ⟨0,0,false⟩))++([Value.slice none 0 0]++([Value.slice none 0 0]++([Value.slice none 0 0]++([Value.slice none 0 0]))))))).toArray (λg9=>?_)
 refine Sy.permS (List.Perm.of_eq eqCW)<|Sy.permS (List.perm_append_comm (l₁:=CWS gc gw bady sy R) (l₂:=[(g9,63,([Value.int .i64 0]++(([Value.bool false]++(Z32++lPT ⟨0,0,false⟩))++(([Value.bool false]++([Value.int .u64 0]++lPT ⟨0,0,false⟩))++([Value.slice none 0 0]++([Value.slice none 0 0]++([Value.slice none 0 0]++([Value.slice none 0 0]))))))).toArray)]) |> λh=>(List.Perm.of_eq eqCW.symm).trans h)<|sw 0 J cs.toArray (Writes.row 63 cs 58 _ _ J kR kR kR c1 kZ c2)<|Sy.permS ((List.perm_append_comm (l₁:=[(g9,63,cs.toArray)]) (l₂:=CWS gc gw bady sy R)).trans (List.Perm.of_eq eqCW))<|Sy.nil<|Sy.then_<|Sy.region<|sp J<|sp J<|sS (.agg cs.toArray) (Bd (R:=R++[(g9,63,cs.toArray)]) (FM CM) Ar c1 J G')<|Sy.callT (λw hw=>QJ (rep:=rep) (ok:=ok) (enc:=enc) (wt:=wt) hm hp w0.inn gc gw g4 g7 bady sy (R++[(g9,63,cs.toArray)]) by_ (ptr gw) cs x (inA h4) (inA h7) (hm (B1 (λ_ h=>inA h)) c3) c1 hsy (by have hyl:=hy.len; omega) w hw) (λv M hM=>?_)
 obtain ⟨s3,bad3,b3,q1,q2,rfl⟩:=hM
 refine Sy.nil<|Sy.in_<|Sy.then_<|Sy.region<|sS (iZ (i+1)) (qad J J J)<|sp J<|Sy.nil ?_
 have hW:=hy.then_ q1
 have hW':Wrote ((l.take (i+1)).all ok) (Af n++(l.take (i+1)).flatMap enc) (9+((l.take (i+1)).map wt).sum) bad b bad3 b3:=by
  rw [htk]
  simp only [List.all_append,List.flatMap_append,List.map_append,List.sum_append,List.all_cons,List.all_nil,List.flatMap_cons,List.flatMap_nil,List.map_cons,List.map_nil,List.sum_cons,List.sum_nil,Bool.and_true,List.append_nil,Nat.add_zero, ← List.append_assoc, ← Nat.add_assoc]
  simpa only [List.append_assoc,Nat.add_assoc] using hW
 exact Sy.againT (s3,bad3,b3) l2 ⟨hW',q2⟩ ac5 (λw h=>C1 h)
theorem Lb (hm:BI rep) (hp:IK 46 58 rep ok enc wt) (w0:Base) (gc gw gx f most:Nat) (hmo:most<1000000) (bad:Bool) (s:Slc) (R:AA) (b:Byt) (v:Value) (l:List α) (hv:LstR (rdC w0 R) 58 rep v l) (hc:rdC w0 R gx f v) (hb:BS s b) (hlen:b.length+(9+(l.map wt).sum)≤70368744170000) (w:World) (hw:St w0 w (CWS gc gw bad s R)) :
  AL 62 #[ptr gc,pT gx f,.int .i64 (most:Int),.func (.func 46) #[] #[]] w (AQ w0 (WrC gc gw R (decide (l.length≤most) && l.all ok) (Af l.length++l.flatMap enc) (9+(l.map wt).sum) bad b)):=by
 have hv0:=hv
 obtain ⟨A,n,cp,rfl,h2,h3,h4',h5⟩:=hv
 refine Sy.enterT (args:=[ptr gc,pT gx f,.int .i64 (most:Int),.func (.func 46) #[] #[]]) hw Tryz.func62 J kL<|sC<|sM 85 #[ptr gc] (λg4=>?_)
 refine Sy.permS (List.Perm.of_eq eqCW)<|sM 115 #[.func (.func 46) #[] #[]] (λg7=>?_)
 refine Sy.permS (List.Perm.of_eq eqCW) ?_
 obtain ⟨R1,hR1⟩:=xE (R++[(g4,85,#[ptr gc])]++[(g7,115,#[.func (.func 46) #[] #[]])])
 rw [← hR1]
 have m4:(g4,85,#[ptr gc])∈R1:=by rw [hR1]; exact inA CM
 have m7:(g7,115,#[.func (.func 46) #[] #[]])∈R1:=by rw [hR1]; exact CM
 have mR:∀ x∈R,x∈R1:=λx hx=>by rw [hR1]; exact inA (inA hx)
 have hv1:LstR (rdC w0 R1) 58 rep (.slice A n cp) l:=LstR.le (rep:=rep) hm (B1 mR) hv0
 have hc1:rdC w0 R1 gx f (.slice A n cp):=B1 mR _ _ _ hc
 have back:∀ {w:World} {bad':Bool} {s':Slc},St w0 w (CWS gc gw bad' s' R1)→St w0 w (CWS gc gw bad' s' R):=λh=>by
  rw [hR1,List.append_assoc] at h
  exact C1 h
 refine sG<|Sy.seq<|sC<|sS (ptr gc) (AH (R:=R1) (Aj m4) Ar J CA)<|sS (.bool false) (qg (λw hw=>CX w0.inn gc _ _ (List.mem_cons_self ..) w hw))<|sG<|sU<|Sy.skip ?_
 obtain ⟨b1,hb1⟩:=xE (decide (n≤most))
 refine sR (λj=>j == 7) ?_
 refine sD 0 J (ptr gc) (AH (R:=R1) (Aj m4) Ar J CA)<|sa 1 J J<|sa 2 J J<|se 3 [4,6,7] rfl (.slice A n cp) (AH (R:=R1) hc1 Ar J EL)<|sb 4 J (.int .i64 (n:Int))<|sa 5 J J<|sv 6 J (.bool b1) (AD .leq _ _ _ .i64 _ _ _ J J J (C' _ _ _ _ _ (by rw [hb1]; exact decide_eq_decide.2 om)))<|Sy.soleD 7 J (λQ2 hq2=>?_)
 refine Sy.callT (λw hw=>Bt w0.inn gc gw bad b1 s R1 w hw) (λu M hM=>?_)
 subst hM
 refine hq2 _ _<|sE ?_
 obtain ⟨bad1,hbad1⟩:=xE ((bad || !b1))
 rw [← hbad1]
 refine sB<|sS (ptr gc) (AH (R:=R1) (Aj m4) Ar J CA)<|sp J<|sP (pT gc 2)<|sS (.bool bad1) (qc 0 2 J J uy4)<|sP (.bool (!bad1))<|sG ?_
 cases bad1
 ·have hb1t:bad=false∧b1=true:=by cases bad <;> cases b1 <;> first | exact ⟨rfl,rfl⟩ | cases hbad1
  obtain ⟨rfl,rfl⟩:=hb1t
  have e1:decide (l.length≤most)=true:=by rw [h2, ← hb1]
  rw [e1,Bool.true_and]
  refine sT<|Sy.regionD (λj=>j == 8) kR<|se 0 [1,2,3,8] rfl (ptr gc) (AH (R:=R1) (Aj m4) Ar J CA)<|sa 1 J J<|sb 2 J (pT gc 0)<|sD 3 J (ptr gw) (qc 0 0 J J D0)<|sa 4 J J<|sa 5 J J<|sD 6 J (.slice A n cp) (AH (R:=R1) hc1 Ar J EL)<|sb 7 J (.func (.func 114) #[] #[ptr g7,ptr g4])<|Sy.soleD 8 J (λQ2 hq2=>?_)
  refine Sy.callT (λw hw=>Nk (rep:=rep) hm hp w0.inn gc gw g4 g7 false s R1 b (.slice A n cp) l m4 m7 hv1 hb hlen w hw) (λu M hM=>?_)
  obtain ⟨s1,bad2,b2,q1,q2,rfl⟩:=hM
  refine hq2 _ _<|sE ?_
  exact Sy.retT0 J (CWS gc gw bad2 s1 R) (λ_ h=>back h) (λ_=>⟨s1,bad2,b2,q1,q2,rfl⟩)
 ·refine sU<|Sy.skip ?_
  have e1:true=(bad || !(decide (l.length≤most) && l.all ok)):=by
   rw [h2, ← hb1]
   cases bad
   ·cases b1
    ·rfl
    ·cases hbad1
   ·rfl
  exact Sy.retT0 J (CWS gc gw true s R) (λ_ h=>back h) (λ_=>⟨s,true,b,⟨e1,λh=>(by cases h),by omega⟩,hb,rfl⟩)
end
section
variable {α:Type} {rep:Rdr→List Value→α→Prop} {p:Ps α}
theorem QN (hm:BI rep) (hp:B4 46 58 (([Value.int .i64 0]++(([Value.bool false]++(Z32++lPT ⟨0,0,false⟩))++(([Value.bool false]++([Value.int .u64 0]++lPT ⟨0,0,false⟩))++([Value.slice none 0 0]++([Value.slice none 0 0]++([Value.slice none 0 0]++([Value.slice none 0 0])))))))) rep p) (w0:Base) (gc gr g4 g7:Nat) (sl:Value) (s:RS) (R S:AA) (hS:∀ b∈S,b∈R) (h4:(g4,85,#[ptr gc])∈R) (h7:(g7,115,#[.func (.func 46) #[] #[]])∈R) (he:s.e≤200) (hl:s.rest.length≤70368744177664) (hv:BytR (rdC w0 S) sl s.rest) (u:Value) (w:World) (hw:St w0 w (CRN gc gr sl s.e R)) :
  AL 112 #[u,ptr g7,ptr g4] w (AQ w0 (RdV 58 rep p w0 gc gr s R S)):=by
 refine Sy.enterT (args:=[u,ptr g7,ptr g4]) hw Tryz.func112 J kL<|sC<|sM 63 (([Value.int .i64 0]++(([Value.bool false]++(Z32++lPT ⟨0,0,false⟩))++(([Value.bool false]++([Value.int .u64 0]++lPT ⟨0,0,false⟩))++([Value.slice none 0 0]++([Value.slice none 0 0]++([Value.slice none 0 0]++([Value.slice none 0 0])))))))).toArray (λga=>?_)
 refine sA<|sM 63 (([Value.int .i64 0]++(([Value.bool false]++(Z32++lPT ⟨0,0,false⟩))++(([Value.bool false]++([Value.int .u64 0]++lPT ⟨0,0,false⟩))++([Value.slice none 0 0]++([Value.slice none 0 0]++([Value.slice none 0 0]++([Value.slice none 0 0])))))))).toArray (λgb=>?_)
 refine Sy.permS (M:=CRS gc gr gb 63 ([]++((([Value.int .i64 0]++(([Value.bool false]++(Z32++lPT ⟨0,0,false⟩))++(([Value.bool false]++([Value.int .u64 0]++lPT ⟨0,0,false⟩))++([Value.slice none 0 0]++([Value.slice none 0 0]++([Value.slice none 0 0]++([Value.slice none 0 0]))))))))++[])) sl s.e ((ga,63,(([Value.int .i64 0]++(([Value.bool false]++(Z32++lPT ⟨0,0,false⟩))++(([Value.bool false]++([Value.int .u64 0]++lPT ⟨0,0,false⟩))++([Value.slice none 0 0]++([Value.slice none 0 0]++([Value.slice none 0 0]++([Value.slice none 0 0])))))))).toArray)::R)) JO<|sA<|sS (.func (.func 46) #[] #[]) (AH (R:=(ga,63,(([Value.int .i64 0]++(([Value.bool false]++(Z32++lPT ⟨0,0,false⟩))++(([Value.bool false]++([Value.int .u64 0]++lPT ⟨0,0,false⟩))++([Value.slice none 0 0]++([Value.slice none 0 0]++([Value.slice none 0 0]++([Value.slice none 0 0])))))))).toArray)::R) (Aj (List.mem_cons_of_mem _ h7)) Dh J SY)<|sS (ptr gc) (AH (R:=(ga,63,(([Value.int .i64 0]++(([Value.bool false]++(Z32++lPT ⟨0,0,false⟩))++(([Value.bool false]++([Value.int .u64 0]++lPT ⟨0,0,false⟩))++([Value.slice none 0 0]++([Value.slice none 0 0]++([Value.slice none 0 0]++([Value.slice none 0 0])))))))).toArray)::R) (Aj (List.mem_cons_of_mem _ h4)) Dh J CA)<|Sy.callT (λw hw=>hp w0.inn gc gr gb 0 63 [] [] sl s ((ga,63,(([Value.int .i64 0]++(([Value.bool false]++(Z32++lPT ⟨0,0,false⟩))++(([Value.bool false]++([Value.int .u64 0]++lPT ⟨0,0,false⟩))++([Value.slice none 0 0]++([Value.slice none 0 0]++([Value.slice none 0 0]++([Value.slice none 0 0])))))))).toArray)::R) S (λb h=>List.mem_cons_of_mem _ (hS b h)) J he hl hv w hw) (λv M hM=>?_)
 obtain ⟨x,s',sl',cs,N,q1,q2,q3,q4,q5,q6,q7,rfl⟩:=hM
 rw [List.append_nil]
 refine sA<|sS (.agg cs.toArray) (Quiet.mid 1 gb 0 58 63 63 cs cs _ _ J kR J G' J kR (by rw [List.drop_zero,List.take_of_length_le om]) om)<|sw 3 J cs.toArray (Writes.row 63 cs 58 _ _ J kR kR kR q2 kZ q3)<|sG<|Sy.ret ?_
 exact Sy.retT1 (CRN gc gr sl' s'.e (R++N)) J (.inl (Sy.Res.cell (ty':=63) ga 3 cs.toArray _ kZ J G' J (by rw [List.size_toArray,q2]; kernel_rfl) rfl)) (λw h=>h.less (((List.Sublist.refl _).cons _ |>.cons_cons _).cons _ |>.cons_cons _)) ⟨x,s',sl',cs,N,q1,q2,q3,q4,rfl,q5,q6,q7,rfl⟩
theorem KY (w:World) (gr most g4 g7:Nat):AL 174 #[ptr gr,.int .i64 (most:Int),.func (.func 112) #[] #[ptr g7,ptr g4]] w (A0 w (λv M=>∃ a b c,v=.func (.func 212) #[] #[ptr a,ptr b,ptr c]∧M=[(a,132,#[ptr gr]),(b,3,#[.int .i64 (most:Int)]),(c,241,#[.func (.func 112) #[] #[ptr g7,ptr g4]])])):=by
 refine Sy.enter (args:=[ptr gr,.int .i64 (most:Int),.func (.func 112) #[] #[ptr g7,ptr g4]]) Tryz.func174 J kL<|sC<|sM 132 #[ptr gr] (λa=>?_)
 refine sM 3 #[.int .i64 (most:Int)] (λb=>?_)
 refine sM 241 #[.func (.func 112) #[] #[ptr g7,ptr g4]] (λc=>?_)
 refine sP .nilFunc<|sA<|sP (.func (.func 212) #[] #[ptr a,ptr b,ptr c])<|sp J<|sG<|Sy.ret ?_
 exact Sy.retGM _ J (.inl (show _=_ by kernel_rfl)) (λ_ h=>h) ⟨a,b,c,rfl,rfl⟩
noncomputable def Rv:TypeInfo:=(Tryz.prog.info? 63).getD default
theorem D':Tryz.prog.info? 63=some Rv:=kZ
def NB (p:Ps α) (rep:Rdr→List Value→α→Prop) (w0:Base) (S:AA) (m:Nat) (s1:RS) (v:Nat×List Value) (y:YL α):Prop:=∃ x,y.x=some x∧y.l.length=v.1∧RowsOk 63 58 rep y.r y.N y.l∧rep (rdB y.N) v.2 x∧v.2.length=58∧(∀ u∈v.2,u.oneCell'=true)∧v.1<1000000
def Jp (rep:Rdr→List Value→α→Prop) (y y':YL α):Prop:=∃ x r',y.x=some x∧RowsOk 63 58 rep r' y.N (y.l++[x])∧y'={ y with l:=y.l++[x],r:=r',x:=none }
theorem Ll (hm:BI rep) (hp:B4 46 58 (([Value.int .i64 0]++(([Value.bool false]++(Z32++lPT ⟨0,0,false⟩))++(([Value.bool false]++([Value.int .u64 0]++lPT ⟨0,0,false⟩))++([Value.slice none 0 0]++([Value.slice none 0 0]++([Value.slice none 0 0]++([Value.slice none 0 0])))))))) rep p) (w0:Base) (fz:World) (gc gr gl g4 g7 a b c most:Nat) (hmost:most<1000000) (R S:AA) (s0:RS) (sl0:Value) (hS:∀ x∈S,x∈R) (h4:(g4,85,#[ptr gc])∈R) (h7:(g7,115,#[.func (.func 46) #[] #[]])∈R) (ha:(a,132,#[ptr gr])∈R) (hb:(b,3,#[.int .i64 (most:Int)])∈R) (hc:(c,241,#[.func (.func 112) #[] #[ptr g7,ptr g4]])∈R) (he:s0.e≤200) (hl:s0.rest.length≤70368744177664) (hv:BytR (rdC w0 S) sl0 s0.rest) (lp:Nat) (w:World) (hw:St (ib w0.world fz) w (LBL gc gr gl 24 nilS s0.e sl0 R []))
  (hY:∀ (v:Nat×List Value) (y:YL α) (W:World),(NB p rep w0 S 0 s0 v y)→St (ib w0.world fz) W (LBL gc gr gl 24 y.r y.s.e y.sl R y.N)→YieldAt Fence.wide 7 Tryz.prog lp #[.int .i64 (v.1:Int),.agg v.2.toArray] W (Fb w0.world fz (Jp rep y) (λy=>LBL gc gr gl 24 y.r y.s.e y.sl R y.N))) :
  CallsIn Fence.wide 8 Tryz.prog 212 #[.func (.yield lp) #[] #[],ptr a,ptr b,ptr c] w (Iw w0.world fz (λy:YL α=>∃ m s1,After (Dw most) s0 m s1∧s1.rest.length≤s0.rest.length∧y.l.length≤most∧InvL 63 58 rep p w0 S m s1 y.l.length y∧(y.s.e=0→y.l.length=m)) (λy=>LBL gc gr gl 24 y.r y.s.e y.sl R y.N)):=by
 refine Sy.enterI (args:=[.func (.yield lp) #[] #[],ptr a,ptr b,ptr c]) hw Tryz.func212 J kL<|sC<|sS (ptr gr) (AH (R:=R) (Aj ha) BH J BD)<|sS (.int .i64 (most:Int)) (AH (R:=R) (Aj hb) BH J uy3)<|Sy.callT (λw hw=>EH (ib w0.world fz) gr sl0 s0 ((gc,134,#[.pointer none,ptr gr,.bool false])::(gl,24,#[.slice none 0 0])::(R++[])) S (λx h=>List.mem_cons_of_mem _ (List.mem_cons_of_mem _ (List.mem_append_left _ (hS x h)))) most hmost he hv w (hw.perm swap12)) (λu M hM=>?_)
 obtain ⟨m,s1,sl1,hA1,⟨rfl,hm1⟩,hs1e,hs1r,hs1b,rfl⟩:=hM
 refine Sy.permS (M:=LBL gc gr gl 24 nilS s1.e sl1 R []) swap12.symm<|sp J<|sA<|sP (.int .i64 0)<|sG<|Sy.block<|Sy.loopT (Y:=YL α) m (λi y=>[(0,.func (.yield lp) #[] #[]),(1,ptr a),(2,ptr b),(3,ptr c),(5,.int .i64 (m:Int)),(6,.int .i64 (i:Int))]) (λi y=>LBL gc gr gl 24 y.r y.s.e y.sl R y.N) (λi y=>InvL 63 58 rep p w0 S m s1 i y) ⟨[],nilS,s1,sl1,[],none⟩ ⟨rfl,RowsOk.nil,λh=>⟨h,rfl⟩,λh=>.inl h,hs1e,Nat.le_refl _,hs1b⟩ ac6 (λ_ h=>h) (λi y hi hy=>?_)
 obtain ⟨l,r,s,sl,N,xo⟩:=y
 have hylen:l.length=i:=hy.len
 refine Sy.seq<|sC ?_
 obtain ⟨b1,hb1⟩:=xE (decide (i<m))
 refine sp J<|sp J<|sS (.bool b1) (qls J J J hb1)<|sp J ?_
 cases b1
 case' false =>
  have l1:=dN hb1
  obtain rfl:i=m:=om
  refine sN<|sN<|sN<|sP (.bool false)<|sG<|sU<|Sy.exit<|Sy.then_exit<|Sy.then_exit<|Sy.in_exit ?_
  exact Sy.retI J (λv w h=>⟨⟨_,rfl⟩,⟨l,r,s,sl,N,xo⟩,⟨i,s1,hA1,hs1r,by show l.length≤most; omega,by rw [show (⟨l,r,s,sl,N,xo⟩:YL α).l.length=i from hylen]; exact hy,λ_=>hylen⟩,h⟩) (.inr J)
 have l1:=dY hb1
 obtain ⟨b2,hb2⟩:=xE (decide (s.e=0))
 have hse:s.e≤200:=hy.e
 refine sS (ptr gr) (AH (R:=R) (Aj ha) BH J BD)<|sS (.int .i64 (s.e:Int)) (qg (λw hw=>Bc (ib w0.world fz) gr sl s.e [] (List.mem_cons_of_mem _ (List.mem_cons_self ..)) w hw))<|sS (.bool b2) (qeq J J J hb2)<|sP (.bool b2)<|sG ?_
 cases b2
 case' false =>
  have l2:=dN hb2
  refine sU<|Sy.exit<|Sy.then_exit<|Sy.then_exit<|Sy.in_exit ?_
  exact Sy.retI J (λv w h=>⟨⟨_,rfl⟩,⟨l,r,s,sl,N,xo⟩,⟨m,s1,hA1,hs1r,by show l.length≤most; omega,by rw [show (⟨l,r,s,sl,N,xo⟩:YL α).l.length=i from hylen]; exact hy,λh=>(l2 h).elim⟩,h⟩) (.inr J)
 have l2:=dY hb2
 obtain ⟨hs10,hrep⟩:=hy.yes l2
 refine sT<|Sy.skip<|Sy.then_<|Sy.seq<|Sy.block<|sC<|sS (.func (.func 112) #[] #[ptr g7,ptr g4]) (AH (R:=R) (Aj hc) BH J Tw)<|sS (ptr gr) (AH (R:=R) (Aj ha) BH J BD)<|Sy.callT (λw hw=>QN (rep:=rep) (p:=p) hm hp (ib w0.world fz) gc gr g4 g7 sl s ((gl,24,#[r.v])::(r.bl++(R++N))) S (λx h=>List.mem_cons_of_mem _ (List.mem_append_right _ (List.mem_append_left _ (hS x h)))) (List.mem_cons_of_mem _ (List.mem_append_right _ (List.mem_append_left _ h4))) (List.mem_cons_of_mem _ (List.mem_append_right _ (List.mem_append_left _ h7))) hse (Nat.le_trans (Nat.le_trans hy.rest hs1r) hl) hy.byt (ptr gr) w hw) (λu M hM=>?_)
 obtain ⟨x,s',sl',cs,N1,q1,q2,q3,q4,rfl,q5,q6,q7,rfl⟩:=hM
 obtain ⟨st1,st2⟩:=Eh hrep l2 q1
 refine sM 63 (([Value.int .i64 0]++(([Value.bool false]++(Z32++lPT ⟨0,0,false⟩))++(([Value.bool false]++([Value.int .u64 0]++lPT ⟨0,0,false⟩))++([Value.slice none 0 0]++([Value.slice none 0 0]++([Value.slice none 0 0]++([Value.slice none 0 0])))))))).toArray (λgb=>?_)
 refine Sy.permS (M:=(gb,63,(([Value.int .i64 0]++(([Value.bool false]++(Z32++lPT ⟨0,0,false⟩))++(([Value.bool false]++([Value.int .u64 0]++lPT ⟨0,0,false⟩))++([Value.slice none 0 0]++([Value.slice none 0 0]++([Value.slice none 0 0]++([Value.slice none 0 0])))))))).toArray)::LBL gc gr gl 24 r s'.e sl' R (N++N1)) ((List.perm_append_comm (l₂:=[(gb,63,(([Value.int .i64 0]++(([Value.bool false]++(Z32++lPT ⟨0,0,false⟩))++(([Value.bool false]++([Value.int .u64 0]++lPT ⟨0,0,false⟩))++([Value.slice none 0 0]++([Value.slice none 0 0]++([Value.slice none 0 0]++([Value.slice none 0 0])))))))).toArray)])).trans (List.Perm.cons _ (List.Perm.of_eq (by simp only [List.cons_append,List.append_assoc,List.nil_append]; rfl))))<|sw 0 J cs.toArray (Writes.row 63 cs 58 _ _ J kR kR kR q2 kZ q3)<|Sy.nil<|Sy.then_ ?_
 have hR2:RowsOk 63 58 rep r (N++N1) l:=RowsOk.more (rep:=rep) hm hy.rows (λb h=>List.mem_append_left _ h)
 have hx2:rep (rdB (N++N1)) cs x:=hm (Ac λb h=>List.mem_append_right _ h) q4
 have drop1:∀ {w:World},St (ib w0.world fz) w ((gb,63,cs.toArray)::LBL gc gr gl 24 r s'.e sl' R (N++N1))→St (ib w0.world fz) w (LBL gc gr gl 24 r s'.e sl' R (N++N1)):=λh=>h.less (List.sublist_cons_self _ _)
 obtain ⟨b3,hb3⟩:=xE (decide (s'.e≠0))
 have inl:∀ b∈R,b∈(gb,63,cs.toArray)::LBL gc gr gl 24 r s'.e sl' R (N++N1):=λb h=>List.mem_cons_of_mem _ (BH b h)
 refine Sy.seq ?_
 cases b3
 case' true =>
  have l3:=dY hb3
  refine Sy.region<|sS (ptr gr) (AH (R:=R) (Aj ha) inl J BD)<|sS (.int .i64 (s'.e:Int)) (qg (λw hw=>Bc (ib w0.world fz) gr sl' s'.e [] (List.mem_cons_of_mem _ (List.mem_cons_of_mem _ (List.mem_cons_self ..))) w hw))<|sS (.bool true) (qne J J J hb3)<|sp J<|sN<|sN<|sN<|sN<|sN<|sP (.bool true)<|sG<|sT<|Sy.ret<|Sy.in_ret<|Sy.then_ret<|Sy.then_ret<|Sy.in_ret ?_
  exact Sy.retI J (λv w h=>⟨⟨_,rfl⟩,⟨l,r,s',sl',N++N1,none⟩,⟨m,s1,hA1,hs1r,by show l.length≤most; omega,⟨rfl,hR2,λh=>(l3 h).elim,λ_=>.inr (st2 l3 m l1),q5,Nat.le_trans q6 hy.rest,q7⟩,λh=>(l3 h).elim⟩,drop1 h⟩) (.inl J)
 have l3:s'.e=0:=Decidable.of_not_not (of_decide_eq_false hb3.symm)
 refine Sy.regionI 7 (by rintro ⟨_,_,⟨_,hv⟩,_⟩; cases hv) kR<|sS (ptr gr) (AH (R:=R) (Aj ha) inl rfl BD)<|sS (.int .i64 (s'.e:Int)) (qg (λw hw=>Bc (ib w0.world fz) gr sl' s'.e [] (List.mem_cons_of_mem _ (List.mem_cons_of_mem _ (List.mem_cons_self ..))) w hw))<|sS (.bool false) (qne rfl rfl rfl hb3)<|sp rfl<|sp rfl<|sp rfl<|sS (.agg cs.toArray) (Quiet.mid 0 gb 0 58 63 63 cs cs _ _ rfl kR rfl G' rfl kR (by rw [List.drop_zero,List.take_of_length_le om]) om)<|Sy.nil<|Sy.yieldI (HR:=Jp rep ⟨l,r,s',sl',N++N1,some x⟩) (LR:=λy=>LBL gc gr gl 24 y.r y.s.e y.sl R y.N) rfl (by rintro ⟨_,_,⟨_,hv⟩,_⟩; cases hv) kR kR lp #[.int .i64 (i:Int),.agg cs.toArray] kF (λw hw=>hY (i,cs) ⟨l,r,s',sl',N++N1,some x⟩ w ⟨x,rfl,hylen,hR2,hx2,q2,q3,by show i<1000000; omega⟩ (drop1 hw)) (λy' hy'=>?_)
 obtain ⟨x',r',hx',hr',rfl⟩:=hy'
 obtain rfl:x=x':=by injection hx'
 refine sP (.bool false)<|sP (.bool false)<|sG<|sU<|Sy.skip<|Sy.in_<|Sy.then_<|Sy.region<|sp J<|sS (iZ (i+1)) (qad J J J)<|sp J<|Sy.nil ?_
 exact Sy.againT ⟨l++[x],r',s',sl',N++N1,none⟩ l1 ⟨by simp [hylen],hr',λ_=>⟨hs10,st1 l3⟩,λh=>(h l3).elim,q5,Nat.le_trans q6 hy.rest,q7⟩ ac6 (λw h=>h)
theorem KT (hm:BI rep) (hp:B4 46 58 (([Value.int .i64 0]++(([Value.bool false]++(Z32++lPT ⟨0,0,false⟩))++(([Value.bool false]++([Value.int .u64 0]++lPT ⟨0,0,false⟩))++([Value.slice none 0 0]++([Value.slice none 0 0]++([Value.slice none 0 0]++([Value.slice none 0 0])))))))) rep p) (w0:Base) (gc gr g4 g7 most:Nat) (hmost:most<1000000) (sl0:Value) (s0:RS) (R S:AA) (hS:∀ x∈S,x∈R) (h4:(g4,85,#[ptr gc])∈R) (h7:(g7,115,#[.func (.func 46) #[] #[]])∈R) (he:s0.e≤200) (hl:s0.rest.length≤70368744177664) (hv:BytR (rdC w0 S) sl0 s0.rest) (w:World) (hw:St w0 w (CRN gc gr sl0 s0.e R)) :
  AL 111 #[ptr gr,.int .i64 (most:Int),.func (.func 112) #[] #[ptr g7,ptr g4]] w (AQ w0 (RdL 58 rep (Cz most p) w0 gc gr s0 R S)):=by
 refine Sy.enterTM (args:=[ptr gr,.int .i64 (most:Int),.func (.func 112) #[] #[ptr g7,ptr g4]]) hw Tryz.func111 J kL<|sC<|sP (.slice none 0 0)<|sA<|sM 24 #[.slice none 0 0] (λgl=>?_)
 refine sG<|Sy.seq<|sC<|sp J<|sp J<|sp J<|Sy.callN kR 174 #[ptr gr,.int .i64 (most:Int),.func (.func 112) #[] #[ptr g7,ptr g4]] kF _ (λw _=>KY w gr most g4 g7) (λv M hM=>?_)
 obtain ⟨a,b,c,rfl,rfl⟩:=hM
 refine Sy.nil<|Sy.then_<|Sy.block ?_
 obtain ⟨R1,hR1⟩:=xE (R++[(a,132,#[ptr gr]),(b,3,#[.int .i64 (most:Int)]),(c,241,#[.func (.func 112) #[] #[ptr g7,ptr g4]])])
 refine Sy.permC (M:=LBL gc gr gl 24 nilS s0.e sl0 R1 []) (by rw [hR1]; exact Hn) ?_
 have mR:∀ x∈R,x∈R1:=λx hx=>by rw [hR1]; exact List.mem_append_left _ hx
 have ma:(a,132,#[ptr gr])∈R1:=by rw [hR1]; simp
 have mb:(b,3,#[.int .i64 (most:Int)])∈R1:=by rw [hR1]; simp
 have mc:(c,241,#[.func (.func 112) #[] #[ptr g7,ptr g4]])∈R1:=by rw [hR1]; simp
 refine Sy.rangeT (α:=Nat×List Value) (Y:=YL α) (Z:=Nat) 212 #[ptr a,ptr b,ptr c] kR kR (enters_of Tryz.func212 kR J) (λv=>#[.int .i64 (v.1:Int),.agg v.2.toArray]) (λ_=>rfl) dZ
  (NB p rep w0 S 0 s0) (λ_ y=>LBL gc gr gl 24 y.r y.s.e y.sl R1 y.N) (λ_ _ z=>[(7,ptr gl),(9,ptr z)]) (λv y z=>(z,63,v.2.toArray)::LBL gc gr gl 24 y.r y.s.e y.sl R1 y.N) (λ_ y=>Jp rep y) (λy=>LBL gc gr gl 24 y.r y.s.e y.sl R1 y.N)
  (λy:YL α=>∃ m s1,After (Dw most) s0 m s1∧s1.rest.length≤s0.rest.length∧y.l.length≤most∧InvL 63 58 rep p w0 S m s1 y.l.length y∧(y.s.e=0→y.l.length=m)) (λy=>LBL gc gr gl 24 y.r y.s.e y.sl R1 y.N) ?_ ?_ ?_ ?_
 ·exact λlp fz w hw hY=>Ll (rep:=rep) (p:=p) hm hp w0 fz gc gr gl g4 g7 a b c most hmost R1 S s0 sl0 (λx h=>mR x (hS x h)) (mR _ h4) (mR _ h7) ma mb mc he hl hv lp w hw hY
 ·rintro lp fz ⟨i,cs⟩ ⟨l,r,s,sl,N,xo⟩ ⟨x,rfl,_,_,_,c1,c2,_⟩
  dsimp only at c1 c2 ⊢
  refine Sy.regionR (by rintro ⟨_,_,h⟩; exact h) kR ⟨_,rfl⟩<|sM 63 (([Value.int .i64 0]++(([Value.bool false]++(Z32++lPT ⟨0,0,false⟩))++(([Value.bool false]++([Value.int .u64 0]++lPT ⟨0,0,false⟩))++([Value.slice none 0 0]++([Value.slice none 0 0]++([Value.slice none 0 0]++([Value.slice none 0 0])))))))).toArray (λz=>?_)
  refine Sy.permS (M:=(z,63,(([Value.int .i64 0]++(([Value.bool false]++(Z32++lPT ⟨0,0,false⟩))++(([Value.bool false]++([Value.int .u64 0]++lPT ⟨0,0,false⟩))++([Value.slice none 0 0]++([Value.slice none 0 0]++([Value.slice none 0 0]++([Value.slice none 0 0])))))))).toArray)::LBL gc gr gl 24 r s.e sl R1 N) (List.perm_append_comm (l₂:=[(z,63,(([Value.int .i64 0]++(([Value.bool false]++(Z32++lPT ⟨0,0,false⟩))++(([Value.bool false]++([Value.int .u64 0]++lPT ⟨0,0,false⟩))++([Value.slice none 0 0]++([Value.slice none 0 0]++([Value.slice none 0 0]++([Value.slice none 0 0])))))))).toArray)]))<|sw 0 J cs.toArray (Writes.row 63 cs 58 _ _ J kR kR kR c1 kZ c2)<|Sy.nil ?_
  exact apZ z ac2 (λ_ h=>h)
 ·rintro lp fz ⟨i,cs⟩ ⟨l,r,s,sl,N,xo⟩ z ⟨x,rfl,hli,⟨xs,x1,x2,x3⟩,hx,c1,c2,hi⟩
  dsimp only at c1 c2 hli x1 x2 x3 hx hi ⊢
  refine Sy.block<|Sy.regionR (by rintro ⟨_,_,h⟩; exact h) kR ⟨_,rfl⟩<|sS r.v (qc 3 0 rfl rfl EL)<|sS (.agg cs.toArray) (Quiet.mid 0 z 0 58 63 63 cs cs _ _ rfl kR rfl G' rfl kR (by rw [List.drop_zero,List.take_of_length_le om]) om)<|Sy.make kR 63 cs.toArray (λg=>.slice (pA g) 1 1) (Makes.one 24 63 _ _ 58 _ cs rfl kR EL D' rfl rfl c1 dZ dZ) (λg8=>?_)
  refine Sy.permS (M:=[(z,63,cs.toArray),(gc,134,#[.pointer none,ptr gr,.bool false]),(gr,253,#[sl,.int .i64 (s.e:Int)]),(gl,24,#[r.v]),(g8,63,cs.toArray)]++(r.bl++(R1++N))) (Sy.flat_perm (ls:=[[(z,63,cs.toArray),(gc,134,#[.pointer none,ptr gr,.bool false]),(gr,253,#[sl,.int .i64 (s.e:Int)]),(gl,24,#[r.v])],r.bl++(R1++N),[(g8,63,cs.toArray)]]) (ms:=[[(z,63,cs.toArray),(gc,134,#[.pointer none,ptr gr,.bool false]),(gr,253,#[sl,.int .i64 (s.e:Int)]),(gl,24,#[r.v])],[(g8,63,cs.toArray)],r.bl++(R1++N)]) [0,2,1] kZ (by rfl) (by simp) (by simp))<|Sy.appendR kR 24 63 _ _ 58 304 EL D' J J J J dZ _ _ J x1 kR cs c1 c2 4 g8 63 kR kR om (by simp only [maxLen]; omega) (λr' hr'=>?_)
  refine sw 3 J #[r'.v] (Writes.one 0 24 r'.v _ _ J kR kR kR hr'.cells.1 hr'.cells.2 Nat.zero_lt_one kR)<|Sy.setT<|Sy.nil<|Sy.in_ ?_
  exact bpZ ⟨l++[x],r',s,sl,N,none⟩ ⟨x,r',rfl,RowsOk.add (rep:=rep) x2 x3 hr' hx,rfl⟩ (λw h=>Sy.St.parts (ls:=[[(z,63,cs.toArray)],[(gc,134,#[.pointer none,ptr gr,.bool false]),(gr,253,#[sl,.int .i64 (s.e:Int)]),(gl,24,#[r'.v])],[(g8,63,cs.toArray)],r'.bl++(R1++N)]) (ms:=[[(gc,134,#[.pointer none,ptr gr,.bool false]),(gr,253,#[sl,.int .i64 (s.e:Int)]),(gl,24,#[r'.v])],r'.bl++(R1++N)]) [[(z,63,cs.toArray)],[(g8,63,cs.toArray)]] [1,3,0,2] kZ (by rfl) (by simp) (by simp) h)
 ·rintro D fz ⟨l,r,s,sl,N,xo⟩ ⟨m,s1,hA1,hs1,hlm,hI,hdn⟩ hD hD2 hmk h0
  dsimp only at hI hdn hlm ⊢
  have hse:s.e≤200:=hI.e
  have hrest:s.rest.length≤s0.rest.length:=Nat.le_trans hI.rest hs1
  refine Sy.in_<|Sy.then_<|Sy.seq<|sC ?_
  obtain ⟨b1,hb1⟩:=xE (decide (s.e≠0))
  refine sp J<|sS (.int .i64 (s.e:Int)) (qg (λw hw=>Bc (ab w0.world fz D) gr sl s.e [] (List.mem_cons_of_mem _ (List.mem_cons_self ..)) w hw))<|sS (.bool b1) (qne J J J hb1)<|sG ?_
  cases b1
  ·have l1:s.e=0:=Decidable.of_not_not (of_decide_eq_false hb1.symm)
   obtain ⟨z1,z2⟩:=hI.yes l1
   rw [hdn l1] at z2
   refine sU<|Sy.skip<|sB<|sS r.v (qc 2 0 J J EL)<|sp J<|sG<|Sy.ret<|Sy.retTM1 (b0:=w0) (M:=CRN gc gr sl s.e (R++(N++r.bl))) J (.inl (show _=_ by kernel_rfl)) (λw h=>Sy.St.parts (ls:=[[(gc,134,#[.pointer none,ptr gr,.bool false]),(gr,253,#[sl,.int .i64 (s.e:Int)])],[(gl,24,#[r.v])],r.bl,R,[(a,132,#[ptr gr]),(b,3,#[.int .i64 (most:Int)]),(c,241,#[.func (.func 112) #[] #[ptr g7,ptr g4]])],N]) (ms:=[[(gc,134,#[.pointer none,ptr gr,.bool false]),(gr,253,#[sl,.int .i64 (s.e:Int)])],R,N,r.bl]) [[(gl,24,#[r.v])],[(a,132,#[ptr gr]),(b,3,#[.int .i64 (most:Int)]),(c,241,#[.func (.func 112) #[] #[ptr g7,ptr g4]])]] [0,3,5,2,1,4] kZ (by rfl) (by rw [hR1]; simp) (by simp) h) ⟨l,s,sl,N++r.bl,hA1.bind ⟨λh=>(h z1).elim,λy q _ hy=>?_,λ_ hy=>?_⟩,RowsOk.lst (rep:=rep) hm hI.rows,hse,hrest,hI.byt,rfl⟩ hD hD2 hmk h0.out
   ·rw [z2] at hy
    cases hy
    exact ⟨rfl,by rw [← l1]⟩
   ·rw [z2] at hy; cases hy
  ·have l1:=dY hb1
   refine sT<|sC<|sP (.slice none 0 0)<|sG<|Sy.ret<|Sy.then_ret<|Sy.retTM1 (b0:=w0) (M:=CRN gc gr sl s.e (R++[])) J (.inl (show _=_ by kernel_rfl)) (λw h=>Sy.St.parts (ls:=[[(gc,134,#[.pointer none,ptr gr,.bool false]),(gr,253,#[sl,.int .i64 (s.e:Int)])],[(gl,24,#[r.v])],r.bl,R,[(a,132,#[ptr gr]),(b,3,#[.int .i64 (most:Int)]),(c,241,#[.func (.func 112) #[] #[ptr g7,ptr g4]])],N]) (ms:=[[(gc,134,#[.pointer none,ptr gr,.bool false]),(gr,253,#[sl,.int .i64 (s.e:Int)])],R]) [[(gl,24,#[r.v])],r.bl,[(a,132,#[ptr gr]),(b,3,#[.int .i64 (most:Int)]),(c,241,#[.func (.func 112) #[] #[ptr g7,ptr g4]])],N] [0,3,1,2,4,5] kZ (by rfl) (by rw [hR1]; simp) (by simp) h) ⟨[],s,sl,[],hA1.bind ⟨λ_=>l1,λy q h1 hy=>?_,λ_ _=>l1⟩,⟨none,0,0,rfl,rfl,Nat.le_refl _,Nat.zero_le _,λh=>(h J).elim⟩,hse,hrest,hI.byt,rfl⟩ hD hD2 hmk h0.out
   rcases hI.no l1 with h | h
   ·exact (h h1).elim
   ·rw [h] at hy; cases hy
theorem Lf (hm:BI rep) (hp:B4 46 58 (([Value.int .i64 0]++(([Value.bool false]++(Z32++lPT ⟨0,0,false⟩))++(([Value.bool false]++([Value.int .u64 0]++lPT ⟨0,0,false⟩))++([Value.slice none 0 0]++([Value.slice none 0 0]++([Value.slice none 0 0]++([Value.slice none 0 0])))))))) rep p) (w0:Base) (gc gr gx f most:Nat) (hmost:most<1000000) (tx:TypeId) (A Z:List Value) (sl:Value) (s:RS) (R S:AA) (hS:∀ b∈S,b∈R) (hA:A.length=f) (he:s.e≤200) (hl:s.rest.length≤70368744177664) (hv:BytR (rdC w0 S) sl s.rest) (w:World) (hw:St w0 w (CRS gc gr gx tx (A++([Value.slice none 0 0]++Z)) sl s.e R)) :
  AL 62 #[ptr gc,pT gx f,.int .i64 (most:Int),.func (.func 46) #[] #[]] w (AQ w0 (RdT 1 (Na 58 rep) (Cz most p) w0 gc gr gx tx A Z s R S)):=by
 refine Sy.enterT (args:=[ptr gc,pT gx f,.int .i64 (most:Int),.func (.func 46) #[] #[]]) hw Tryz.func62 J kL<|sC<|sM 85 #[ptr gc] (λg4=>?_)
 refine sM 115 #[.func (.func 46) #[] #[]] (λg7=>?_)
 obtain ⟨R1,hR1⟩:=xE (R++([(g4,85,#[ptr gc])]++[(g7,115,#[.func (.func 46) #[] #[]])]))
 refine Sy.permS (M:=CRS gc gr gx tx (A++([Value.slice none 0 0]++Z)) sl s.e R1) (List.Perm.of_eq (by rw [hR1]; simp)) ?_
 have mR:∀ x∈R,x∈R1:=λx hx=>by rw [hR1]; exact List.mem_append_left _ hx
 have m4:(g4,85,#[ptr gc])∈R1:=by rw [hR1]; simp
 have m7:(g7,115,#[.func (.func 46) #[] #[]])∈R1:=by rw [hR1]; simp
 refine sG<|Sy.seq<|sC<|sS (ptr gc) (AH (R:=R1) (Aj m4) Dh J CA)<|sS (.bool true) (qg (λw hw=>CL w0.inn gc gr _ _ (List.mem_cons_self ..) w hw))<|sG<|sT<|sC<|sp J<|sS (ptr gc) (AH (R:=R1) (Aj m4) Dh J CA)<|sp J<|sP (pT gc 1)<|sS (ptr gr) (qc 0 1 J J BD)<|sp J<|sP (.func (.func 112) #[] #[ptr g7,ptr g4])<|Sy.callT (λw hw=>KT (rep:=rep) (p:=p) hm hp w0.inn gc gr g4 g7 most hmost sl s ((gx,tx,(A++([Value.slice none 0 0]++Z)).toArray)::R1) S (λx h=>List.mem_cons_of_mem _ (mR x (hS x h))) (List.mem_cons_of_mem _ m4) (List.mem_cons_of_mem _ m7) he hl hv w (hw.perm BU)) (λv M hM=>?_)
 obtain ⟨l,s',sl',N,q1,q2,q3,q4,q5,rfl⟩:=hM
 refine Sy.permS (M:=CRS gc gr gx tx (A++([Value.slice none 0 0]++Z)) sl' s'.e (R1++N)) BU<|sp J<|sw 1 J (A++([v]++Z)).toArray (Writes.one f 24 v _ _ J kR kR kR q2.cells.1 q2.cells.2 (by rw [List.size_toArray,List.length_append,hA]; exact Nat.lt_add_of_pos_right (Nat.succ_pos _)) (Aq hA))<|sG<|Sy.ret<|Sy.then_ret ?_
 exact Sy.retT0 J (CRS gc gr gx tx (A++([v]++Z)) sl' s'.e (R++N)) (λw h=>Sy.St.parts (ls:=[[(gc,134,#[.pointer none,ptr gr,.bool false]),(gx,tx,(A++([v]++Z)).toArray),(gr,253,#[sl',.int .i64 (s'.e:Int)])],R,[(g4,85,#[ptr gc])]++[(g7,115,#[.func (.func 46) #[] #[]])],N]) (ms:=[[(gc,134,#[.pointer none,ptr gr,.bool false]),(gx,tx,(A++([v]++Z)).toArray),(gr,253,#[sl',.int .i64 (s'.e:Int)])],R,N]) [[(g4,85,#[ptr gc])]++[(g7,115,#[.func (.func 46) #[] #[]])]] [0,1,3,2] kZ (by rfl) (by rw [hR1]; simp) (by simp) h) (λ_=>⟨l,s',sl',[v],N,q1,rfl,λu hu=>by rw [List.mem_singleton.1 hu]; exact q2.cells.2,⟨v,rfl,q2⟩,q3,q4,q5,rfl⟩)
end
theorem Ew (w:World) (v:Value) (b:Byt) (hl:b.length≤8) (hv:BytR (rdW w) v b):AL 125 #[v] w (Ai w (uZ ((said b:Nat):Int))):=by
 obtain ⟨A,n,cp,rfl,h2,h3,h4,h5⟩:=hv
 refine Sy.enter (args:=[.slice A n cp]) Tryz.func125 J kL<|sC<|sP (uZ 0)<|sA<|sP (uZ 0)<|sG<|Sy.seq<|sC<|sP (.int .i64 0)<|sG<|Sy.block<|Sy.loopT (Y:=Nat) n (λi a=>[(0,.slice A n cp),(3,uZ (a:Int)),(4,.int .i64 (i:Int))]) (λ_ _=>[]) (λi a=>a=said (b.take i)) 0 J ac3 (λ_ h=>h) (λi a hi ha=>?_)
 refine Sy.seq<|sC ?_
 obtain ⟨b2,hb2⟩:=xE (decide (i<n))
 refine sp J<|sp J<|sP (.int .i64 (n:Int))<|sS (.bool b2) (qls J J J hb2)<|sG ?_
 cases b2
 case' false =>
  have l2:=dN hb2
  obtain rfl:i=n:=om
  refine sU<|Sy.exit<|Sy.then_exit<|Sy.then_exit<|Sy.in_exit<|Sy.then_<|sC<|sp J<|sp J<|sG<|Sy.ret ?_
  rw [show said b=a by rw [ha,List.take_of_length_le om]]
  exact rV (uZ (a:Int)) J
 have l2:=dY hb2
 obtain ⟨u,hu⟩:∃ u,b[i]? = some u:=⟨_,List.getElem?_eq_getElem om⟩
 obtain ⟨g,o,hA,hq⟩:=h5 (by intro e; rw [e] at hu; cases hu)
 have ha2:a<72057594037927936:=by rw [ha]; exact J3 b i om
 have hu2:=u.toNat_lt
 refine sT<|Sy.skip<|Sy.then_<|Sy.seq<|Sy.block<|Sy.region<|sp J<|sS (uZ ((256*a:Nat):Int)) (Quiet.pure (AD .mul _ _ _ .u64 _ _ _ J J J (Jc _ _ _ _ _ (by rw [show (256:Int)*(a:Int)=((256*a:Nat):Int) by omega]; exact wrap_u64 om om))))<|sp J<|sp J<|sS (.pointer (some ⟨g,o+i*1,none⟩)) (Quiet.pure (Bl 27 _ _ _ A g o n cp i 1 .i64 hA J J J Ay kF l2))<|sS (bv u) (Quiet.thereOne g (o+i*1) 5 _ _ J kR (hq i u hu).1 _ (by rw [Nat.mul_one]; exact (hq i u hu).2) uy5 J)<|sS (uZ ((u.toNat:Nat):Int)) (Quiet.pure (λw=>Jh w _ _ _ u J J))<|sS (uZ ((256*a+u.toNat:Nat):Int)) (Quiet.pure (AD .add _ _ _ .u64 _ _ _ J J J (E2 _ _ _ _ _ (by rw [← Int.natCast_add]; exact wrap_u64 om om))))<|sp J<|Sy.nil<|Sy.in_<|Sy.then_<|Sy.region<|sp J<|sS (iZ (i+1)) (qad J J J)<|sp J<|Sy.nil ?_
 exact Sy.againT (256*a+u.toNat) l2 (by show 256*a+u.toNat=_; rw [ha,Ic b i u hu]) ac3 (λw h=>h)
abbrev rrV (sl:Value) (at_ e:Nat):Value:=.agg #[sl,.int .i64 (at_:Int),.int .i64 (e:Int)]
abbrev rrC (sl:Value) (at_ e:Nat):Array Value:=#[sl,.int .i64 (at_:Int),.int .i64 (e:Int)]
def Ba (b:Byt) (at_ e n:Nat):Nat×Nat×Byt:=if e≠0 then (at_,e,[]) else if b.length - at_<n then (at_,110,[]) else (at_+n,0,(b.drop at_).take n)
theorem Hg (w:World) (sl:Value) (b:Byt) (at_ e n:Nat) (hat:at_≤b.length) (hn:n≤70368744177664) (hl:b.length≤70368744177664) (hv:BytR (rdW w) sl b) :
  AL 149 #[rrV sl at_ e,.int .i64 (n:Int)] w (A0 w (λv M=>∃ u,v=.tuple #[rrV sl (Ba b at_ e n).1 (Ba b at_ e n).2.1,u]∧ByN (Ba b at_ e n).2.2 u M)):=by
 have hv0:=hv
 obtain ⟨A,m,cp,rfl,h2,h3,h4,h5⟩:=hv
 refine Sy.enter (args:=[rrV (.slice A m cp) at_ e,.int .i64 (n:Int)]) Tryz.func149 J kL<|sC<|sM 164 (rrC (.slice A m cp) at_ e) (λg2=>?_)
 refine sM 164 (rrC (.slice none 0 0) 0 0) (λg4=>?_)
 refine sP (.slice none 0 0)<|sG<|Sy.seq<|Sy.block<|sC ?_
 obtain ⟨b1,hb1⟩:=xE (decide (e≠0))
 refine sP (pT g2 2)<|sS (.int .i64 (e:Int)) (qc 0 2 J J Ed)<|sS (.bool b1) (qne J J J hb1)<|sp J<|sG ?_
 cases b1
 case' true =>
  have l1:=dY hb1
  have er:Ba b at_ e n=(at_,e,[]):=if_pos l1
  rw [er]
  refine sT<|sC<|sS (rrV (.slice A m cp) at_ e) (qk 0 0 3 J J Bg)<|sw 1 J (rrC (.slice A m cp) at_ e) (wA J)<|sP (.slice none 0 0)<|sG<|Sy.ret<|Sy.in_ret<|Sy.then_ret ?_
  exact Sy.retGM2 [] rfl (.inl (Sy.Res.cell (ty':=164) g4 1 (rrC (.slice A m cp) at_ e) _ kZ J Bg J kZ J)) (.inl (show _=_ by kernel_rfl)) (λ_ h=>h.none) ⟨_,rfl,none,0,0,rfl,BS.nil⟩
 have l1:e=0:=Decidable.of_not_not (of_decide_eq_false hb1.symm)
 refine sU<|sC<|sp J<|sS (.bool false) (Quiet.pure (AD .lss _ _ _ .i64 _ _ _ J J J (C_ _ _ _ _ _ (decide_eq_false om))))<|sp J<|sG<|sU<|sC ?_
 obtain ⟨b2,hb2⟩:=xE (decide (m - at_<n))
 refine sp J<|sP (pT g2 0)<|sS (.slice A m cp) (qc 0 0 J J Ay)<|sP (.int .i64 (m:Int))<|sP (pT g2 1)<|sS (.int .i64 (at_:Int)) (qc 0 1 J J uy3)<|sS (iZ (m - at_)) (qsb J J J)<|sS (.bool b2) (qgt J J J hb2)<|sp J<|sG ?_
 cases b2
 case' true =>
  have l2:=dY hb2
  have er:Ba b at_ e n=(at_,110,[]):=by unfold Ba; rw [if_neg (λh=>h l1),if_pos om]
  rw [er]
  refine sT<|sC<|sP (pT g2 2)<|sw 0 J (rrC (.slice A m cp) at_ 110) (wO 2 28 (.int .i64 110) rfl)<|sA<|sS (rrV (.slice A m cp) at_ 110) (qk 0 0 3 J J Bg)<|sw 1 J (rrC (.slice A m cp) at_ 110) (wA J)<|sP (.slice none 0 0)<|sG<|Sy.ret<|Sy.in_ret<|Sy.then_ret ?_
  exact Sy.retGM2 [] rfl (.inl (Sy.Res.cell (ty':=164) g4 1 (rrC (.slice A m cp) at_ 110) _ kZ J Bg J kZ J)) (.inl (show _=_ by kernel_rfl)) (λ_ h=>h.none) ⟨_,rfl,none,0,0,rfl,BS.nil⟩
 have l2:=dN hb2
 obtain ⟨x,hx⟩:=xE ((b.drop at_).take n)
 have er:Ba b at_ e n=(at_+n,0,x):=by unfold Ba; rw [if_neg (λh=>h l1),if_neg om,hx]
 rw [er]
 have hxl:x.length=n:=by rw [hx,List.length_take,List.length_drop]; omega
 obtain ⟨A2,hA2⟩:∃ A2,sliced A at_ (at_+n) cp 1=.slice A2 (at_+n - at_) (cp - at_):=⟨_,rfl⟩
 have hv2:BytR (rdC (Base.of w) []) (.slice A2 (at_+n - at_) (cp - at_)) x:=by
  have q:=(hv0.slice (l:=at_) (m:=at_+n) om om).le (D5 (R:=[]))
  rw [hA2,Nat.add_sub_cancel_left] at q
  rw [hx,Nat.add_sub_cancel_left]; exact q
 subst l1
 refine sU<|Sy.skip<|Sy.in_<|sB<|sP (.slice none 0 0)<|sA<|sp J<|sP (pT g2 0)<|sS (.slice A m cp) (qc 0 0 J J Ay)<|sP (pT g2 1)<|sS (.int .i64 (at_:Int)) (qc 0 1 J J uy3)<|sP (pT g2 1)<|sS (.int .i64 (at_:Int)) (qc 0 1 J J uy3)<|sp J<|sS (iZ (at_+n)) (qad J J J)<|sS (.slice A2 (at_+n - at_) (cp - at_)) (Quiet.pure (λw=>by rw [← hA2]; exact Ki _ _ _ _ m cp at_ (at_+n) rfl J J J om om w))<|Sy.appendM (pre:=[(g2,164,rrC (.slice A m cp) at_ 0),(g4,164,rrC (.slice none 0 0) 0 0)]) (r:=nilS) (T:=[]) kR 27 5 _ _ 1 1 Ay Cu.info_u8 J J J J dZ _ _ J BS.nil kR (Dt x) (DG x) A2 (at_+n - at_) (cp - at_) (by rw [At,hxl]; omega) om kR (λr=>BytR.from hv2 (λy hy=>by cases hy)) (by rw [At]; show (0+_)*1≤_; omega) (by rw [At]; show 0+_≤_; simp only [maxLen]; omega) (λr hr=>?_)
 have hr':BS r x:=hr
 refine sp J<|sA<|sP (pT g2 1)<|sS (.int .i64 (at_:Int)) (qc 0 1 J J uy3)<|sp J<|sS (iZ (at_+n)) (qad J J J)<|sP (pT g2 1)<|sw 0 J (rrC (.slice A m cp) (at_+n) 0) (wO 1 3 (iZ (at_+n)) J)<|sA<|sS (rrV (.slice A m cp) (at_+n) 0) (qk 0 0 3 J J Bg)<|sp J<|sw 1 J (rrC (.slice A m cp) (at_+n) 0) (wA J)<|sp J<|sG<|Sy.ret ?_
 exact Sy.retGM2 r.bl J (.inl (Sy.Res.cell (ty':=164) g4 1 (rrC (.slice A m cp) (at_+n) 0) _ kZ J Bg J kZ J)) (.inl (show _=_ by kernel_rfl)) (λ_ h=>Sy.St.less (L:=[(g2,164,rrC (.slice A m cp) (at_+n) 0),(g4,164,rrC (.slice A m cp) (at_+n) 0)]++(r.bl++[])) h (by rw [List.append_nil]; exact List.sublist_append_right _ _)) ⟨_,rfl,hr'.as⟩
theorem Fl (b:Byt) (at_ e n:Nat):(Ba b at_ e n).2.2.length≤n:=by
 unfold Ba
 split
 ·exact Nat.zero_le _
 ·split
  ·exact Nat.zero_le _
  ·show (List.take _ _).length≤_; rw [List.length_take]; omega
theorem Kc (w:World) (sl:Value) (b:Byt) (at_ e n:Nat) (hat:at_≤b.length) (hn:n≤8) (hl:b.length≤70368744177664) (hv:BytR (rdW w) sl b) :
  AL 179 #[rrV sl at_ e,.int .i64 (n:Int)] w (Ai w (.tuple #[rrV sl (Ba b at_ e n).1 (Ba b at_ e n).2.1,uZ ((said (Ba b at_ e n).2.2:Nat):Int)])):=by
 have hv0:=hv
 have hxl:=Fl b at_ e n
 obtain ⟨f,hf⟩:=xE (Ba b at_ e n)
 rw [← hf] at hxl ⊢
 obtain ⟨A,m,cp,rfl,h2,h3,h4,h5⟩:=hv
 refine Sy.enter (args:=[rrV (.slice A m cp) at_ e,.int .i64 (n:Int)]) Tryz.func179 J kL<|sC<|sM 164 (rrC (.slice A m cp) at_ e) (λg2=>?_)
 refine sM 164 (rrC (.slice none 0 0) 0 0) (λg4=>?_)
 refine sP (uZ 0)<|sA<|sS (rrV (.slice A m cp) at_ e) (qk 0 0 3 J J Bg)<|sp J<|Sy.callN kR 149 #[rrV (.slice A m cp) at_ e,.int .i64 (n:Int)] kF _ (λw' hw=>Hg w' (.slice A m cp) b at_ e n hat om hl (hv0.at hw)) (λu M hM=>?_)
 rw [← hf] at hM
 obtain ⟨u,rfl,hu⟩:=hM
 refine sp J<|sp J<|sp J<|sw 0 J (rrC (.slice A m cp) f.1 f.2.1) (wA J)<|sp J<|Sy.nil<|sR (λj=>j == 3) ?_
 refine sa 1 J J<|sD 2 J (uZ ((said f.2.2:Nat):Int)) (qg (λw' hw=>Ew w' u f.2.2 om (hu.byt.le (λg o v h=>Aa (w0:=Base.of w) hw (R:=M) (λb hb=>List.mem_cons_of_mem _ (List.mem_cons_of_mem _ hb)) g o v (.inr h)))))<|sD 0 J (rrV (.slice A m cp) f.1 f.2.1) (qk 0 0 3 J J Bg)<|sx 3 J 1 J (rrC (.slice A m cp) f.1 f.2.1) (wA J)<|sa 4 J J<|sI<|Sy.ret ?_
 exact Sy.ret2 J (.inl (Sy.Res.cell (ty':=164) g4 1 (rrC (.slice A m cp) f.1 f.2.1) _ kZ J Bg J kZ J)) (.inl (show _=_ by kernel_rfl))
theorem BS.one (g:Nat) (x:UInt8):BS ⟨.slice (pA g) 1 1,[(g,5,#[bv x])]⟩ [x]:=⟨Dt [x],DG [x],.inr ⟨g,1,[],rfl,rfl,Nat.le_refl _,by decide⟩⟩
theorem Nw (q:Nat):UInt8.ofNat (q%256)=UInt8.ofNat q:=by apply UInt8.toNat_inj.1; simp [UInt8.toNat_ofNat']
theorem Dj (w:World) (n k:Nat) (hn:n<18446744073709551616) (hk:k≤8):AL 115 #[uZ (n:Int),.int .i64 (k:Int)] w (A0 w (ByN (nb k n))):=by
 refine Sy.enter (args:=[uZ (n:Int),.int .i64 (k:Int)]) Tryz.func115 J kL<|sC<|sP (.slice none 0 0)<|sA<|sP (.slice none 0 0)<|sG<|Sy.seq<|sC<|sp J<|sS (.int .i64 ((k:Int) - 1)) (Quiet.pure (AD .sub _ _ _ .i64 _ _ _ J J J (Cd _ _ _ _ _ (BN om om))))<|sp J<|sG<|Sy.block<|Sy.loopT (Y:=Slc×Int) k (λi y=>[(0,uZ (n:Int)),(1,.int .i64 (k:Int)),(5,y.1.v),(6,.int .i64 y.2)]) (λi y=>y.1.bl++[]) (λi y=>BS y.1 ((nb k n).take i)∧y.2=(k:Int) - 1 - (i:Int)) (nilS,(k:Int) - 1) ⟨BS.nil,by show _=(k:Int) - 1 - ((0:Nat):Int); omega⟩ ac4 (λ_ h=>h) (λi y hi hy=>?_)
 obtain ⟨s,z⟩:=y
 obtain ⟨hs,hz⟩:=hy
 dsimp only at hs hz ⊢
 refine Sy.seq<|sC ?_
 obtain ⟨b1,hb1⟩:=xE (decide (i<k))
 refine sp J<|sS (.bool b1) (qge J J J hb1)<|sG ?_
 cases b1
 case' false =>
  have l1:=dN hb1
  obtain rfl:i=k:=om
  refine sU<|Sy.exit<|Sy.then_exit<|Sy.then_exit<|Sy.in_exit<|Sy.then_<|sC<|sp J<|sp J<|sG<|Sy.ret ?_
  rw [List.take_of_length_le (by rw [Ch]; exact Nat.le_refl _)] at hs
  exact Sy.retGM s.bl J (.inl (show _=_ by kernel_rfl)) (λ_ h=>by rw [List.append_nil] at h; exact h) hs.as
 have l1:=dY hb1
 obtain ⟨m,hm⟩:∃ m:Nat,m=k - 1 - i:=⟨_,rfl⟩
 obtain rfl:z=(m:Int):=om
 refine sT<|Sy.skip<|Sy.then_<|Sy.seq<|Sy.block<|sC<|sp J<|sp J<|sG<|Sy.seq<|sC<|sP (.int .i64 0)<|sG<|Sy.block<|Sy.loopT (Y:=Nat) m (λj q=>[(0,uZ (n:Int)),(1,.int .i64 (k:Int)),(5,s.v),(6,.int .i64 (m:Int)),(7,uZ (q:Int)),(8,.int .i64 (j:Int))]) (λ_ _=>s.bl++[]) (λj q=>q=n / 256 ^ j) n (by rw [Nat.pow_zero,Nat.div_one]) ac6 (λ_ h=>h) (λj q hj hq=>?_)
 dsimp only at hq ⊢
 have hq2:q<18446744073709551616:=by rw [hq]; exact Nat.lt_of_le_of_lt (Nat.div_le_self _ _) hn
 refine Sy.seq<|sC ?_
 obtain ⟨b2,hb2⟩:=xE (decide (j<m))
 refine sp J<|sp J<|sS (.bool b2) (qls J J J hb2)<|sG ?_
 cases b2
 case' true =>
  have l2:=dY hb2
  refine sT<|Sy.skip<|Sy.then_<|Sy.seq<|Sy.block<|Sy.region<|sp J<|sS (uZ ((q / 256:Nat):Int)) (Quiet.pure (AD .quo _ _ _ .u64 _ _ _ J J J (Jb _ _ _ _ _ dZ (by rw [show (q:Int).tdiv 256=((q / 256:Nat):Int) from rfl]; exact wrap_u64 om om))))<|sp J<|Sy.nil<|Sy.in_<|Sy.then_<|Sy.region<|sp J<|sS (iZ (j+1)) (qad J J J)<|sp J<|Sy.nil ?_
  exact Sy.againT (q / 256) l2 (by show q / 256=n / 256 ^ (j+1); rw [hq,Nat.div_div_eq_div_mul,Nat.pow_succ]) ac6 (λw h=>h)
 have l2:=dN hb2
 obtain rfl:j=m:=om
 obtain ⟨x,hx⟩:=xE (UInt8.ofNat (q%256))
 have hln:((nb k n).take i).length≤8:=by rw [List.length_take,Ch]; omega
 refine sU<|Sy.exit<|Sy.then_exit<|Sy.then_exit<|Sy.in_exit<|Sy.then_<|Sy.region<|sp J<|sp J<|sS (uZ ((q%256:Nat):Int)) (Quiet.pure (AD .rem _ _ _ .u64 _ _ _ J J J (Rq _ _ _ _ _ dZ J)))<|sS (bv x) (Quiet.pure (λw=>by rw [hx]; exact Es w _ _ _ _ om J J))<|Sy.make kR 5 #[bv x] (λg=>.slice (pA g) 1 1) kF (λg1=>?_)
 refine Sy.movT (pre:=[]) (T:=s.bl++[])<|Sy.appendR (pre:=[(g1,5,#[bv x])]) (T:=[]) kR 27 5 _ _ 1 1 Ay Cu.info_u8 J J J J dZ _ _ J hs kR [bv x] rfl (λu hu=>by rw [List.mem_singleton.1 hu]; rfl) 0 g1 5 kR kR (by rw [At]; omega) (by rw [At]; simp only [maxLen]; omega) (λr hr=>?_)
 refine sp J<|Sy.nil<|Sy.in_<|Sy.then_<|Sy.region<|sp J<|sS (.int .i64 ((j:Int) - 1)) (Quiet.pure (AD .sub _ _ _ .i64 _ _ _ J J J (Cd _ _ _ _ _ (BN om om))))<|sp J<|Sy.nil ?_
 have hr':BS r ((nb k n).take (i+1)):=by
  have e:byL ((nb k n).take (i+1))=byL ((nb k n).take i)++[[bv x]]:=by
   rw [Mg k n i l1,E5,hx,hq,Nw,hm]
   rfl
  show r.Is 5 1 _
  rw [e]
  exact hr
 exact Sy.againT (r,(j:Int) - 1) l1 ⟨hr',by show (j:Int) - 1=_; omega⟩ ac4 (λw h=>h.less (List.sublist_cons_self _ _))
theorem DV (w:World) (n:Nat) (hn:n<18446744073709551616):AL 117 #[uZ (n:Int)] w (A0 w (ByN (Af n))):=by
 refine Sy.enter (args:=[uZ (n:Int)]) Tryz.func117 J kL<|sC<|sP (.slice none 0 0)<|sG<|Sy.seq<|sC ?_
 obtain ⟨b1,hb1⟩:=xE (decide (n<253))
 refine sp J<|sS (.bool b1) (Quiet.pure (AD .lss _ _ _ .u64 _ _ _ J J J (C_ _ _ _ _ _ (by rw [hb1]; exact decide_eq_decide.2 om))))<|sG ?_
 cases b1
 case' true =>
  have l1:=dY hb1
  obtain ⟨x,hx⟩:=xE (UInt8.ofNat n)
  refine sT<|sC<|sp J<|sS (bv x) (Quiet.pure (λw=>by rw [hx]; exact Es w _ _ _ _ hn J J))<|Sy.make kR 5 #[bv x] (λg=>.slice (pA g) 1 1) kF (λg1=>?_)
  refine sp J<|sG<|Sy.ret<|Sy.then_ret ?_
  rw [show Af n=[x] by unfold Af; rw [if_pos l1,hx]]
  exact Sy.retGM [(g1,5,#[bv x])] rfl (.inl (show _=_ by kernel_rfl)) (λ_ h=>h) (BS.one g1 x).as
 have l1:=dN hb1
 refine sU<|Sy.skip<|sB<|sP (bv 253)<|sA<|sP (.int .i64 2)<|sG ?_
 obtain ⟨c1,hc1⟩:∃ c:UInt8×Nat,c=if 65536≤n then (254,4) else (253,2):=⟨_,rfl⟩
 obtain ⟨c2,hc2⟩:∃ c:UInt8×Nat,c=if 4294967296≤n then (255,8) else c1:=⟨_,rfl⟩
 have hv:Af n=c2.1::nb c2.2 n:=by
  unfold Af
  rw [if_neg l1,hc2,hc1]
  by_cases h1:n<65536
  ·rw [if_pos h1,if_neg (show ¬ 4294967296≤n by omega),if_neg (show ¬ 65536≤n by omega)]
  ·rw [if_neg h1]
   by_cases h2:n<4294967296
   ·rw [if_pos h2,if_neg (show ¬ 4294967296≤n by omega),if_pos (show 65536≤n by omega)]
   ·rw [if_neg h2,if_pos (show 4294967296≤n by omega)]
 have hc8:c2.2≤8:=by
  rw [hc2,hc1]
  split
  ·exact Nat.le_refl _
  ·split
   ·show 4≤8; omega
   ·show 2≤8; omega
 refine Sy.seq<|De [(0,uZ (n:Int)),(3,bv c1.1),(4,iZ c1.2)] [] ?_ ?_
 ·refine sC ?_
  obtain ⟨b2,hb2⟩:=xE (decide (65536≤n))
  refine sp J<|sS (.bool b2) (Quiet.pure (AD .geq _ _ _ .u64 _ _ _ J J J (Dn _ _ _ _ _ (by rw [hb2]; exact decide_eq_decide.2 om))))<|sG ?_
  cases b2
  ·rw [if_neg (of_decide_eq_false hb2.symm)] at hc1
   rw [hc1]
   refine sU<|Sy.skip ?_
   exact BK ac3 (λ_ h=>h)
  ·rw [if_pos (of_decide_eq_true hb2.symm)] at hc1
   rw [hc1]
   refine sT<|Sy.region<|sP (bv 254)<|sP (.int .i64 4)<|Sy.nil ?_
   exact BK ac3 (λ_ h=>h)
 clear hc1
 refine Sy.then_<|Sy.seq<|De [(0,uZ (n:Int)),(3,bv c2.1),(4,iZ c2.2)] [] ?_ ?_
 ·refine sC ?_
  obtain ⟨b2,hb2⟩:=xE (decide (4294967296≤n))
  refine sp J<|sS (.bool b2) (Quiet.pure (AD .geq _ _ _ .u64 _ _ _ J J J (Dn _ _ _ _ _ (by rw [hb2]; exact decide_eq_decide.2 om))))<|sG ?_
  cases b2
  ·rw [if_neg (of_decide_eq_false hb2.symm)] at hc2
   rw [hc2]
   refine sU<|Sy.skip ?_
   exact BK ac3 (λ_ h=>h)
  ·rw [if_pos (of_decide_eq_true hb2.symm)] at hc2
   rw [hc2]
   refine sT<|Sy.region<|sP (bv 255)<|sP (.int .i64 8)<|Sy.nil ?_
   exact BK ac3 (λ_ h=>h)
 clear hc2
 obtain ⟨x,k⟩:=c2
 dsimp only at hv hc8 ⊢
 rw [hv]
 refine Sy.then_<|sC<|sp J<|Sy.make kR 5 #[bv x] (λg=>.slice (pA g) 1 1) kF (λg1=>?_)
 refine sp J<|sA<|sp J<|sp J<|sp J<|Sy.callN kR 115 #[uZ (n:Int),.int .i64 (k:Int)] kF _ (λw' _=>Dj w' n k hn hc8) (λu M hM=>?_)
 obtain ⟨A,m,cp,rfl,h2,h3,h4,h5⟩:=hM.byt
 rw [Ch] at h2
 have hf:BytR (rdC (Base.of w) M) (.slice A m cp) (nb k n):=(hM.byt).le Hf
 refine Sy.appendM (pre:=[]) (r:=⟨.slice (pA g1) 1 1,[(g1,5,#[bv x])]⟩) (T:=M) kR 27 5 _ _ 1 1 Ay Cu.info_u8 J J J J dZ _ _ J (BS.one g1 x) kR (Dt (nb k n)) (DG (nb k n)) A m cp (by rw [At,Ch,h2]) h3 kR (λr=>BytR.from hf (λy hy=>List.mem_append_right [] (List.mem_append_right _ hy))) (by rw [At]; show (1+m)*1≤_; omega) (by rw [At]; show 1+m≤_; simp only [maxLen]; omega) (λr hr=>?_)
 have hr':BS r (x::nb k n):=hr
 refine sp J<|sA<|sp J<|sp J<|sG<|Sy.ret ?_
 exact Sy.retGM r.bl J (.inl (show _=_ by kernel_rfl)) (λ_ h=>h.less (List.sublist_append_left _ _)) hr'.as
def gv1 (b:Byt) (at_ e:Nat):Nat×Nat×Nat:=((Ba b at_ e 1).1,(Ba b at_ e 1).2.1,said (Ba b at_ e 1).2.2)
def gv2 (b:Byt) (at_ e:Nat):Nat×Nat×Nat:=if (gv1 b at_ e).2.1=0∧253≤(gv1 b at_ e).2.2 then ((Ba b (gv1 b at_ e).1 (gv1 b at_ e).2.1 (wide (gv1 b at_ e).2.2)).1,(Ba b (gv1 b at_ e).1 (gv1 b at_ e).2.1 (wide (gv1 b at_ e).2.2)).2.1,said (Ba b (gv1 b at_ e).1 (gv1 b at_ e).2.1 (wide (gv1 b at_ e).2.2)).2.2) else gv1 b at_ e
def gvN (b:Byt) (at_ e most:Nat):Nat×Nat×Nat:=if (gv2 b at_ e).2.1≠0 then (at_,(gv2 b at_ e).2.1,0) else if (Af (gv2 b at_ e).2.2).length≠(gv2 b at_ e).1 - at_ then (at_,111,0) else if most<(gv2 b at_ e).2.2 then (at_,112,0) else gv2 b at_ e
theorem JK (b:Byt) (at_ e n:Nat) (h:at_≤b.length):at_≤(Ba b at_ e n).1∧(Ba b at_ e n).1≤b.length:=by
 unfold Ba
 split
 ·exact ⟨Nat.le_refl _,h⟩
 ·split
  ·exact ⟨Nat.le_refl _,h⟩
  ·exact ⟨Nat.le_add_right _ _,by show at_+n≤_; omega⟩
theorem Nf (b:Byt) (at_ e n:Nat) (h:n≤8):said (Ba b at_ e n).2.2<18446744073709551616:=by
 have h1:=Cn (Ba b at_ e n).2.2
 have h2:=Fl b at_ e n
 have h3:256 ^ (Ba b at_ e n).2.2.length≤256 ^ 8:=Nat.pow_le_pow_right dZ om
 exact Nat.lt_of_lt_of_le h1 h3
theorem P9 (b:Byt) (at_ e:Nat):(gv1 b at_ e).2.2<256:=by
 have h1:=Cn (Ba b at_ e 1).2.2
 have h2:=Fl b at_ e 1
 have h3:256 ^ (Ba b at_ e 1).2.2.length≤256 ^ 1:=Nat.pow_le_pow_right dZ om
 exact Nat.lt_of_lt_of_le h1 h3
theorem Tc (b:Byt) (at_ e:Nat) (h:at_≤b.length):at_≤(gv2 b at_ e).1∧(gv2 b at_ e).1≤b.length∧(gv2 b at_ e).2.2<18446744073709551616:=by
 have h1:=JK b at_ e 1 h
 unfold gv2
 split
 ·have h2:=JK b (gv1 b at_ e).1 (gv1 b at_ e).2.1 (wide (gv1 b at_ e).2.2) h1.2
  exact ⟨Nat.le_trans h1.1 h2.1,h2.2,Nf _ _ _ _ (EK _).1⟩
 ·exact ⟨h1.1,h1.2,Nat.lt_trans (P9 b at_ e) dZ⟩
theorem Gj (w:World) (sl:Value) (b:Byt) (at_ e most:Nat) (hat:at_≤b.length) (hm:most<18446744073709551616) (hl:b.length≤70368744177664) (hv:BytR (rdW w) sl b) :
  AL 126 #[rrV sl at_ e,uZ (most:Int),.bool false] w (Ai w (.tuple #[rrV sl (gvN b at_ e most).1 (gvN b at_ e most).2.1,uZ (((gvN b at_ e most).2.2:Nat):Int)])):=by
 have hv0:=hv
 obtain ⟨A,m,cp,rfl,h2,h3,h4,h5⟩:=hv
 have hlt:=P9 b at_ e
 obtain ⟨f,hf⟩:=xE (gv1 b at_ e)
 have hf1:f.1=(Ba b at_ e 1).1:=by rw [hf]; rfl
 have hf2:f.2.1=(Ba b at_ e 1).2.1:=by rw [hf]; rfl
 have hf3:f.2.2=said (Ba b at_ e 1).2.2:=by rw [hf]; rfl
 have hfa:=JK b at_ e 1 hat
 obtain ⟨q1,q2,hq3⟩:=Tc b at_ e hat
 obtain ⟨q,hq⟩:=xE (gv2 b at_ e)
 have hqf:q=if f.2.1=0∧253≤f.2.2 then ((Ba b f.1 f.2.1 (wide f.2.2)).1,(Ba b f.1 f.2.1 (wide f.2.2)).2.1,said (Ba b f.1 f.2.1 (wide f.2.2)).2.2) else f:=by rw [hq,hf]; rfl
 have hg:gvN b at_ e most=if q.2.1≠0 then (at_,q.2.1,0) else if (Af q.2.2).length≠q.1 - at_ then (at_,111,0) else if most<q.2.2 then (at_,112,0) else q:=by rw [hq]; rfl
 rw [← hq] at q1 q2 hq3
 rw [← hf] at hlt
 rw [← hf1] at hfa
 rw [hg]
 clear hq hf hg
 refine Sy.enter (args:=[rrV (.slice A m cp) at_ e,uZ (most:Int),.bool false]) Tryz.func126 J kL<|sC<|sM 164 (rrC (.slice A m cp) at_ e) (λg3=>?_)
 refine sM 164 (rrC (.slice none 0 0) 0 0) (λg6=>?_)
 refine sP (uZ 0)<|sA<|sS (rrV (.slice A m cp) at_ e) (qk 0 0 3 J J Bg)<|sS (.tuple #[rrV (.slice A m cp) f.1 f.2.1,uZ ((f.2.2:Nat):Int)]) (qg (λw' hw=>by rw [hf1,hf2,hf3]; exact Kc w' (.slice A m cp) b at_ e 1 hat dZ hl (hv0.at hw)))<|sp J<|sp J<|sp J<|sM 164 (rrC (.slice none 0 0) 0 0) (λg8=>?_)
 refine sw 2 J (rrC (.slice A m cp) f.1 f.2.1) (wA J)<|sp J<|sA<|sp J<|sp J<|sG<|Sy.seq<|De [(1,uZ (most:Int)),(2,.bool false),(3,ptr g3),(6,ptr g6),(8,ptr g8),(10,uZ ((q.2.2:Nat):Int))] [(g3,164,rrC (.slice A m cp) at_ e),(g6,164,rrC (.slice none 0 0) 0 0),(g8,164,rrC (.slice A m cp) q.1 q.2.1)] ?_ ?_
 ·refine sC ?_
  obtain ⟨b1,hb1⟩:=xE (decide (f.2.1=0))
  refine sP (pT g8 2)<|sS (iZ f.2.1) (qc 2 2 J J Ed)<|sS (.bool b1) (qeq J J J hb1)<|sp J ?_
  cases b1
  case' false =>
   have l1:=dN hb1
   rw [if_neg (λh=>l1 h.1)] at hqf
   refine sN<|sN<|sP (.bool false)<|sG<|sU<|Sy.skip ?_
   rw [hqf]
   exact BK ac6 (λ_ h=>h)
  have l1:=dY hb1
  obtain ⟨b2,hb2⟩:=xE (decide (253≤f.2.2))
  refine sp J<|sS (.bool b2) (Quiet.pure (AD .geq _ _ _ .u64 _ _ _ J J J (Dn _ _ _ _ _ (by rw [hb2]; exact decide_eq_decide.2 om))))<|sP (.bool b2)<|sG ?_
  cases b2
  case' false =>
   have l2:=dN hb2
   rw [if_neg (λh=>l2 h.2)] at hqf
   refine sU<|Sy.skip ?_
   rw [hqf]
   exact BK ac6 (λ_ h=>h)
  have l2:=dY hb2
  rw [if_pos ⟨l1,l2⟩] at hqf
  have hqa:q.1=(Ba b f.1 f.2.1 (wide f.2.2)).1:=by rw [hqf]
  have hqb:q.2.1=(Ba b f.1 f.2.1 (wide f.2.2)).2.1:=by rw [hqf]
  have hqc:q.2.2=said (Ba b f.1 f.2.1 (wide f.2.2)).2.2:=by rw [hqf]
  clear hqf
  obtain ⟨k1,hk1⟩:=xE (if f.2.2=254 then 4 else 2)
  obtain ⟨k2,hk2⟩:=xE (if f.2.2=255 then 8 else k1)
  have hk:wide f.2.2=k2:=by
   rw [hk2,hk1]
   unfold wide
   repeat' split
   all_goals omega
  have hk8:=(EK f.2.2).1
  rw [hk] at hqa hqb hqc hk8
  clear hk
  refine sT<|sC<|sP (.int .i64 2)<|sG<|Sy.seq<|De [(1,uZ (most:Int)),(2,.bool false),(3,ptr g3),(6,ptr g6),(8,ptr g8),(9,uZ ((f.2.2:Nat):Int)),(11,.int .i64 (k1:Int))] [(g3,164,rrC (.slice A m cp) at_ e),(g6,164,rrC (.slice none 0 0) 0 0),(g8,164,rrC (.slice A m cp) f.1 f.2.1)] ?_ ?_
  ·refine sC ?_
   obtain ⟨b3,hb3⟩:=xE (decide (f.2.2=254))
   refine sp J<|sS (.bool b3) (Quiet.pure (AD .eql _ _ _ .u64 _ _ _ J J J (Ab _ _ _ _ _ (by rw [hb3]; exact decide_eq_decide.2 om))))<|sG ?_
   cases b3
   ·rw [if_neg (of_decide_eq_false hb3.symm)] at hk1
    subst hk1
    refine sU<|Sy.skip ?_
    exact BK ac7 (λ_ h=>h)
   ·rw [if_pos (of_decide_eq_true hb3.symm)] at hk1
    subst hk1
    refine sT<|Sy.region<|sP (.int .i64 4)<|Sy.nil ?_
    exact BK ac7 (λ_ h=>h)
  clear hk1
  refine Sy.then_<|Sy.seq<|De [(1,uZ (most:Int)),(2,.bool false),(3,ptr g3),(6,ptr g6),(8,ptr g8),(9,uZ ((f.2.2:Nat):Int)),(11,.int .i64 (k2:Int))] [(g3,164,rrC (.slice A m cp) at_ e),(g6,164,rrC (.slice none 0 0) 0 0),(g8,164,rrC (.slice A m cp) f.1 f.2.1)] ?_ ?_
  ·refine sC ?_
   obtain ⟨b3,hb3⟩:=xE (decide (f.2.2=255))
   refine sp J<|sS (.bool b3) (Quiet.pure (AD .eql _ _ _ .u64 _ _ _ J J J (Ab _ _ _ _ _ (by rw [hb3]; exact decide_eq_decide.2 om))))<|sG ?_
   cases b3
   ·rw [if_neg (of_decide_eq_false hb3.symm)] at hk2
    subst hk2
    refine sU<|Sy.skip ?_
    exact BK ac7 (λ_ h=>h)
   ·rw [if_pos (of_decide_eq_true hb3.symm)] at hk2
    subst hk2
    refine sT<|Sy.region<|sP (.int .i64 8)<|Sy.nil ?_
    exact BK ac7 (λ_ h=>h)
  clear hk2
  refine Sy.then_<|Sy.region<|sS (rrV (.slice A m cp) f.1 f.2.1) (qk 2 0 3 J J Bg)<|sp J<|sS (.tuple #[rrV (.slice A m cp) q.1 q.2.1,uZ ((q.2.2:Nat):Int)]) (qg (λw' hw=>by rw [hqa,hqb,hqc]; exact Kc w' (.slice A m cp) b f.1 f.2.1 k2 hfa.2 hk8 hl (hv0.at hw)))<|sp J<|sp J<|sp J<|sw 2 J (rrC (.slice A m cp) q.1 q.2.1) (wA J)<|sp J<|Sy.nil ?_
  exact BK ac6 (λ_ h=>h)
 clear hqf hf1 hf2 hf3 hfa hlt
 refine Sy.then_<|Sy.seq<|sC ?_
 obtain ⟨b1,hb1⟩:=xE (decide (q.2.1≠0))
 refine sP (pT g8 2)<|sS (iZ q.2.1) (qc 2 2 J J Ed)<|sS (.bool b1) (qne J J J hb1)<|sG ?_
 cases b1
 case' true =>
  rw [if_pos (of_decide_eq_true hb1.symm)]
  refine sT<|sC<|sP (pT g8 2)<|sS (iZ q.2.1) (qc 2 2 J J Ed)<|sP (pT g3 2)<|sw 0 J (rrC (.slice A m cp) at_ q.2.1) (wO 2 28 (iZ q.2.1) rfl)<|sA<|sS (rrV (.slice A m cp) at_ q.2.1) (qk 0 0 3 J J Bg)<|sw 1 J (rrC (.slice A m cp) at_ q.2.1) (wA J)<|sP (uZ 0)<|sG<|Sy.ret<|Sy.then_ret ?_
  exact Sy.ret2 J (.inl (Sy.Res.cell (ty':=164) g6 1 (rrC (.slice A m cp) at_ q.2.1) _ kZ J Bg J kZ J)) (.inl (show _=_ by kernel_rfl))
 have l1:=of_decide_eq_false hb1.symm
 rw [if_neg l1]
 refine sU<|Sy.skip<|Sy.then_<|Sy.seq<|Sy.seq ?_
 obtain ⟨b3,hb3⟩:=xE (decide ((Af q.2.2).length≠q.1 - at_))
 refine De [(1,uZ (most:Int)),(2,.bool false),(3,ptr g3),(6,ptr g6),(8,ptr g8),(10,uZ ((q.2.2:Nat):Int)),(50,.bool b3)] [(g3,164,rrC (.slice A m cp) at_ e),(g6,164,rrC (.slice none 0 0) 0 0),(g8,164,rrC (.slice A m cp) q.1 q.2.1)] ?_ ?_
 ·refine Sy.regionD (λj=>j == 1 || j == 4 || j == 6) kR ?_
  refine sa 0 J J<|sb 3 J (pT g8 1)<|sb 5 J (pT g3 1)<|Sy.anyOf [1,4,6] kZ dZ (Sy.each3 ?_ ?_ ?_)
  ·refine Sy.oneCallN J kZ 117 #[uZ ((q.2.2:Nat):Int)] kF _ (λw' _=>DV w' q.2.2 hq3) (λu M hM=>?_)
   obtain ⟨A1,m1,c1,rfl,k2,_⟩:=hM.byt
   refine sb 2 J (.int .i64 (m1:Int))<|Sy.anyOf [4,6] kZ dZ (Sy.each2 ?_ ?_)
   ·refine Sy.oneQuiet J kZ (iZ q.1) (qc 2 1 J J uy3) ?_
    refine Sy.anyOf [6] kZ dZ (Sy.each1 ?_)
    ·refine Sy.oneQuiet J kZ (.int .i64 (at_:Int)) (qc 0 1 J J uy3) ?_
     refine sv 7 J (iZ (q.1 - at_)) (AD .sub _ _ _ .i64 _ _ _ J J J (Cd _ _ _ _ _ ((BN om om).trans om)))<|sv 8 J (.bool b3) (AD .neq _ _ _ .i64 _ _ _ J J J (Dl _ _ _ _ _ (by rw [hb3]; exact decide_eq_decide.2 om)))<|sE ?_
     exact BK ac7 (λ_ h=>h.less (List.sublist_append_left _ _))
   ·refine Sy.oneQuiet J kZ (.int .i64 (at_:Int)) (qc 0 1 J J uy3) ?_
    refine Sy.anyOf [4] kZ dZ (Sy.each1 ?_)
    ·refine Sy.oneQuiet J kZ (iZ q.1) (qc 2 1 J J uy3) ?_
     refine sv 7 J (iZ (q.1 - at_)) (AD .sub _ _ _ .i64 _ _ _ J J J (Cd _ _ _ _ _ ((BN om om).trans om)))<|sv 8 J (.bool b3) (AD .neq _ _ _ .i64 _ _ _ J J J (Dl _ _ _ _ _ (by rw [hb3]; exact decide_eq_decide.2 om)))<|sE ?_
     exact BK ac7 (λ_ h=>h.less (List.sublist_append_left _ _))
  ·refine Sy.oneQuiet J kZ (iZ q.1) (qc 2 1 J J uy3) ?_
   refine Sy.anyOf [1,6] kZ dZ (Sy.each2 ?_ ?_)
   ·refine Sy.oneCallN J kZ 117 #[uZ ((q.2.2:Nat):Int)] kF _ (λw' _=>DV w' q.2.2 hq3) (λu M hM=>?_)
    obtain ⟨A1,m1,c1,rfl,k2,_⟩:=hM.byt
    refine sb 2 J (.int .i64 (m1:Int))<|Sy.anyOf [6] kZ dZ (Sy.each1 ?_)
    ·refine Sy.oneQuiet J kZ (.int .i64 (at_:Int)) (qc 0 1 J J uy3) ?_
     refine sv 7 J (iZ (q.1 - at_)) (AD .sub _ _ _ .i64 _ _ _ J J J (Cd _ _ _ _ _ ((BN om om).trans om)))<|sv 8 J (.bool b3) (AD .neq _ _ _ .i64 _ _ _ J J J (Dl _ _ _ _ _ (by rw [hb3]; exact decide_eq_decide.2 om)))<|sE ?_
     exact BK ac7 (λ_ h=>h.less (List.sublist_append_left _ _))
   ·refine Sy.oneQuiet J kZ (.int .i64 (at_:Int)) (qc 0 1 J J uy3) ?_
    refine sv 7 J (iZ (q.1 - at_)) (AD .sub _ _ _ .i64 _ _ _ J J J (Cd _ _ _ _ _ ((BN om om).trans om)))<|Sy.anyOf [1] kZ dZ (Sy.each1 ?_)
    ·refine Sy.oneCallN J kZ 117 #[uZ ((q.2.2:Nat):Int)] kF _ (λw' _=>DV w' q.2.2 hq3) (λu M hM=>?_)
     obtain ⟨A1,m1,c1,rfl,k2,_⟩:=hM.byt
     refine sb 2 J (.int .i64 (m1:Int))<|sv 8 J (.bool b3) (AD .neq _ _ _ .i64 _ _ _ J J J (Dl _ _ _ _ _ (by rw [hb3]; exact decide_eq_decide.2 om)))<|sE ?_
     exact BK ac7 (λ_ h=>h.less (List.sublist_append_left _ _))
  ·refine Sy.oneQuiet J kZ (.int .i64 (at_:Int)) (qc 0 1 J J uy3) ?_
   refine Sy.anyOf [1,4] kZ dZ (Sy.each2 ?_ ?_)
   ·refine Sy.oneCallN J kZ 117 #[uZ ((q.2.2:Nat):Int)] kF _ (λw' _=>DV w' q.2.2 hq3) (λu M hM=>?_)
    obtain ⟨A1,m1,c1,rfl,k2,_⟩:=hM.byt
    refine sb 2 J (.int .i64 (m1:Int))<|Sy.anyOf [4] kZ dZ (Sy.each1 ?_)
    ·refine Sy.oneQuiet J kZ (iZ q.1) (qc 2 1 J J uy3) ?_
     refine sv 7 J (iZ (q.1 - at_)) (AD .sub _ _ _ .i64 _ _ _ J J J (Cd _ _ _ _ _ ((BN om om).trans om)))<|sv 8 J (.bool b3) (AD .neq _ _ _ .i64 _ _ _ J J J (Dl _ _ _ _ _ (by rw [hb3]; exact decide_eq_decide.2 om)))<|sE ?_
     exact BK ac7 (λ_ h=>h.less (List.sublist_append_left _ _))
   ·refine Sy.oneQuiet J kZ (iZ q.1) (qc 2 1 J J uy3) ?_
    refine sv 7 J (iZ (q.1 - at_)) (AD .sub _ _ _ .i64 _ _ _ J J J (Cd _ _ _ _ _ ((BN om om).trans om)))<|Sy.anyOf [1] kZ dZ (Sy.each1 ?_)
    ·refine Sy.oneCallN J kZ 117 #[uZ ((q.2.2:Nat):Int)] kF _ (λw' _=>DV w' q.2.2 hq3) (λu M hM=>?_)
     obtain ⟨A1,m1,c1,rfl,k2,_⟩:=hM.byt
     refine sb 2 J (.int .i64 (m1:Int))<|sv 8 J (.bool b3) (AD .neq _ _ _ .i64 _ _ _ J J J (Dl _ _ _ _ _ (by rw [hb3]; exact decide_eq_decide.2 om)))<|sE ?_
     exact BK ac7 (λ_ h=>h.less (List.sublist_append_left _ _))
 refine Sy.then_ ?_
 cases b3
 case' true =>
  rw [if_pos (of_decide_eq_true hb3.symm)]
  refine sT<|sC<|sP (pT g3 2)<|sw 0 J (rrC (.slice A m cp) at_ 111) (wO 2 28 (.int .i64 111) rfl)<|sA<|sS (rrV (.slice A m cp) at_ 111) (qk 0 0 3 J J Bg)<|sw 1 J (rrC (.slice A m cp) at_ 111) (wA J)<|sP (uZ 0)<|sG<|Sy.ret<|Sy.then_ret ?_
  exact Sy.ret2 J (.inl (Sy.Res.cell (ty':=164) g6 1 (rrC (.slice A m cp) at_ 111) _ kZ J Bg J kZ J)) (.inl (show _=_ by kernel_rfl))
 rw [if_neg (of_decide_eq_false hb3.symm)]
 refine sU<|Sy.skip<|Sy.then_<|Sy.seq<|sC ?_
 obtain ⟨b4,hb4⟩:=xE (decide (most<q.2.2))
 refine sp J<|sp J<|sp J<|sp J<|sS (.bool b4) (Quiet.pure (AD .gtr _ _ _ .u64 _ _ _ J J J (Dm _ _ _ _ _ (by rw [hb4]; exact decide_eq_decide.2 om))))<|sP (.bool b4)<|sG ?_
 cases b4
 case' true =>
  rw [if_pos (of_decide_eq_true hb4.symm)]
  refine sT<|sC<|sP (pT g3 2)<|sw 0 J (rrC (.slice A m cp) at_ 112) (wO 2 28 (.int .i64 112) rfl)<|sA<|sS (rrV (.slice A m cp) at_ 112) (qk 0 0 3 J J Bg)<|sw 1 J (rrC (.slice A m cp) at_ 112) (wA J)<|sP (uZ 0)<|sG<|Sy.ret<|Sy.then_ret ?_
  exact Sy.ret2 J (.inl (Sy.Res.cell (ty':=164) g6 1 (rrC (.slice A m cp) at_ 112) _ kZ J Bg J kZ J)) (.inl (show _=_ by kernel_rfl))
 rw [if_neg (of_decide_eq_false hb4.symm)]
 refine sU<|Sy.skip<|sB<|sS (rrV (.slice A m cp) q.1 q.2.1) (qk 2 0 3 J J Bg)<|sp J<|sw 1 J (rrC (.slice A m cp) q.1 q.2.1) (wA J)<|sp J<|sG<|Sy.ret ?_
 exact Sy.ret2 J (.inl (Sy.Res.cell (ty':=164) g6 1 (rrC (.slice A m cp) q.1 q.2.1) _ kZ J Bg J kZ J)) (.inl (show _=_ by kernel_rfl))
theorem PB (b:Byt) (at_ k:Nat) (h:at_≤b.length):(Ba b at_ 0 k).1=at_+(fxN (b.drop at_) k).2.1∧(Ba b at_ 0 k).2.1=(fxN (b.drop at_) k).2.2∧said (Ba b at_ 0 k).2.2=(fxN (b.drop at_) k).1:=by
 unfold Ba fxN
 rw [if_neg (λh=>h J),List.length_drop]
 by_cases h:b.length - at_<k
 ·rw [if_pos h,if_pos h]; exact ⟨rfl,rfl,rfl⟩
 ·rw [if_neg h,if_neg h]; exact ⟨rfl,rfl,rfl⟩
theorem Td {b:Byt} {k:Nat} (h:(fxN b k).2.2=0):(fxN b k).2.1=k:=by
 unfold fxN at h ⊢
 split at h
 ·cases h
 ·rename_i hl; rw [if_neg hl]
theorem Mo {b:Byt} {k:Nat} (h:(fxN b k).2.2≠0):(fxN b k).1=0∧(fxN b k).2.1=0:=by
 unfold fxN at h ⊢
 split at h
 ·rename_i hl; rw [if_pos hl]; exact ⟨rfl,rfl⟩
 ·exact (h J).elim
theorem P8 (b:Byt) (at_ most:Nat) (h:at_≤b.length):gvN b at_ 0 most=(at_+(vrN (b.drop at_) most).2.1,(vrN (b.drop at_) most).2.2,(vrN (b.drop at_) most).1):=by
 have r1:=PB b at_ 1 h
 cases hl:b.drop at_ with
 | nil =>
  rw [hl] at r1
  have e1:gv1 b at_ 0=(at_,110,0):=by
   unfold gv1
   rw [r1.1,r1.2.1,r1.2.2]; rfl
  have e2:gv2 b at_ 0=(at_,110,0):=by unfold gv2; rw [e1]; exact if_neg (λh=>by cases h.1)
  unfold gvN
  rw [e2,if_pos (show (110:Nat)≠0 by decide)]
  rfl
 | cons u l =>
  have hu:=u.toNat_lt
  rw [hl,FW (rfl:u::l=u::l)] at r1
  have e1:gv1 b at_ 0=(at_+1,0,u.toNat):=by
   unfold gv1
   rw [r1.1,r1.2.1,r1.2.2]
  by_cases hc:253≤u.toNat
  ·have hat1:at_+1≤b.length:=by
    have:=congrArg List.length hl
    rw [List.length_drop,List.length_cons] at this; omega
   have hd:b.drop (at_+1)=l:=by rw [← List.drop_drop,hl]; rfl
   have r2:=PB b (at_+1) (wide u.toNat) hat1
   rw [hd] at r2
   have hg:vrG (u::l)=if (fxN l (wide u.toNat)).2.2=0 then (if (fxN l (wide u.toNat)).1<CG u.toNat then (0,0,111) else ((fxN l (wide u.toNat)).1,1+wide u.toNat,0)) else (0,0,(fxN l (wide u.toNat)).2.2):=by
    unfold vrG
    rw [FW (rfl:u::l=u::l),if_pos (show 253≤(u.toNat,1,0).1 from hc)]
    rfl
   have hfl:=Do l (wide u.toNat) (EK _).1
   have hfn:(fxN l (wide u.toNat)).1<256 ^ wide u.toNat:=by
    unfold fxN
    split
    ·exact Nat.pow_pos dZ
    ·have h1:=Cn (l.take (wide u.toNat))
     have h2:256 ^ (l.take (wide u.toNat)).length≤256 ^ wide u.toNat:=Nat.pow_le_pow_right dZ (by rw [List.length_take]; omega)
     exact Nat.lt_of_lt_of_le h1 h2
   have hz:=@Mo l (wide u.toNat)
   have hln:=@Td l (wide u.toNat)
   have hw:=NK hu hc hfn
   have e2:gv2 b at_ 0=(at_+1+(fxN l (wide u.toNat)).2.1,(fxN l (wide u.toNat)).2.2,(fxN l (wide u.toNat)).1):=by
    unfold gv2
    rw [e1,if_pos ⟨rfl,hc⟩,r2.1,r2.2.1,r2.2.2]
   obtain ⟨f,hf⟩:=xE (fxN l (wide u.toNat))
   obtain ⟨wd,hwd⟩:=xE (wide u.toNat)
   rw [← hwd] at hf
   rw [← hwd, ← hf] at e2 hg hz hln hw
   unfold gvN vrN
   rw [e2,hg]
   clear hg e2 r2 e1 r1
   by_cases h1:f.2.2=0
   ·rw [if_pos h1,if_neg (λh=>h h1)]
    have hk:=hln h1
    by_cases h2:f.1<CG u.toNat
    ·rw [if_pos h2]
     dsimp only
     rw [if_pos (show (Af f.1).length≠at_+1+f.2.1 - at_ by intro e; exact absurd (hw.1 om) om),if_neg (show ¬ ((111:Nat)=0∧most<0) from λh=>by cases h.1)]
     rfl
    ·rw [if_neg h2]
     dsimp only
     rw [if_neg (show ¬ (Af f.1).length≠at_+1+f.2.1 - at_ by intro e; exact e (by have:=hw.2 (by omega); omega))]
     by_cases h3:most<f.1
     ·rw [if_pos h3,if_pos (show (0:Nat)=0∧most<f.1 from ⟨rfl,h3⟩)]; rfl
     ·rw [if_neg h3,if_neg (show ¬ ((0:Nat)=0∧most<f.1) from λh=>h3 h.2)]
      refine Prod.ext ?_ (Prod.ext h1 J)
      show at_+1+f.2.1=at_+(1+wd); omega
   ·rw [if_neg h1,if_pos h1,if_neg (λh=>h1 h.1)]
    rfl
  ·have e2:gv2 b at_ 0=(at_+1,0,u.toNat):=by unfold gv2; rw [e1]; exact if_neg (λh=>hc h.2)
   have hg:vrG (u::l)=(u.toNat,1,0):=by
    unfold vrG
    rw [FW (rfl:u::l=u::l),if_neg (show ¬ 253≤(u.toNat,1,0).1 from hc)]
   have hv:(Af u.toNat).length=1:=by unfold Af; rw [if_pos om]; rfl
   unfold gvN vrN
   rw [e2,hg,if_neg (λh=>h J),if_neg (show ¬ (Af u.toNat).length≠at_+1 - at_ by intro e; exact e om)]
   by_cases h3:most<u.toNat
   ·rw [if_pos h3,if_pos ⟨rfl,h3⟩]; rfl
   ·rw [if_neg h3,if_neg (λh=>h3 h.2)]
theorem Rz (b:Byt) (at_ e most:Nat) (he:e≠0):gvN b at_ e most=(at_,e,0):=by
 have e0:Ba b at_ e 1=(at_,e,[]):=if_pos he
 have e1:gv1 b at_ e=(at_,e,0):=by unfold gv1; rw [e0]; rfl
 have e2:gv2 b at_ e=(at_,e,0):=by unfold gv2; rw [e1]; exact if_neg (λh=>he h.1)
 unfold gvN
 rw [e2,if_pos he]
theorem GU (b:Byt) (at_ e most:Nat) (h:at_≤b.length) (he:e≤200):After (Dw most) ⟨b.drop at_,e⟩ (gvN b at_ e most).2.2 ⟨b.drop (gvN b at_ e most).1,(gvN b at_ e most).2.1⟩∧(gvN b at_ e most).1≤b.length∧(gvN b at_ e most).2.1≤200∧(gvN b at_ e most).2.2≤most:=by
 by_cases h0:e=0
 ·subst h0
  rw [P8 b at_ most h]
  have hy:=@I1 (b.drop at_) most
  have hn:=@OZ (b.drop at_) most
  have hf:=Gu (b.drop at_) most
  obtain ⟨f,hff⟩:=xE (vrN (b.drop at_) most)
  have hz:f.2.2≠0→f.1=0∧f.2.1=0:=by
   rw [hff]
   have q:=Gv (b.drop at_)
   unfold vrN
   intro h1
   split at h1
   ·rename_i hc; rw [if_pos hc]; exact ⟨rfl,rfl⟩
   ·rename_i hc
    rw [if_neg hc]
    refine ⟨G7 h1,?_⟩
    have e3:=P8 b at_ most h
    unfold vrG at h1 ⊢
    split at h1
    ·rename_i h2
     rw [if_pos h2]
     unfold lgN at h1 ⊢
     split at h1
     ·rename_i h3
      split at h1
      ·rename_i h4; rw [if_pos h3,if_pos h4]
      ·exact (h1 J).elim
     ·rename_i h3; rw [if_neg h3]
    ·rename_i h2; rw [if_neg h2]; exact (Mo h1).2
  rw [← hff] at hy hn hf ⊢
  dsimp only
  by_cases h1:f.2.2=0
  ·obtain ⟨q1,q2,q3⟩:=hy h1
   rw [List.length_drop] at q2
   refine ⟨⟨λh=>(h J).elim,λy r _ hp=>?_,λ_ hp=>?_⟩,by omega,by omega,q3⟩
   ·rw [q1] at hp
    cases hp
    refine ⟨rfl,?_⟩
    rw [List.drop_drop,h1]
   ·rw [q1] at hp; cases hp
  ·have q1:=hn h1
   obtain ⟨z1,z2⟩:=hz h1
   refine ⟨⟨λh=>(h J).elim,λy r _ hp=>?_,λ_ _=>h1⟩,by omega,hf.2.2,by omega⟩
   rw [q1] at hp; cases hp
 ·rw [Rz b at_ e most h0]
  exact ⟨⟨λ_=>h0,λ_ _ h1 _=>(h0 h1).elim,λh1 _=>(h0 h1).elim⟩,h,he,Nat.zero_le _⟩
def Nq (x:Byt) (n:Nat):Byt:=if x.length<n then List.replicate n 0 else x
theorem PO (b:Byt) (at_ e n:Nat):(Nq (Ba b at_ e n).2.2 n).length=n:=by
 have:=Fl b at_ e n
 unfold Nq
 split
 ·exact List.length_replicate
 ·omega
theorem LB (b:Byt) (at_ e n:Nat) (h:at_≤b.length) (he:e≤200):After (A_ n) ⟨b.drop at_,e⟩ (Nq (Ba b at_ e n).2.2 n) ⟨b.drop (Ba b at_ e n).1,(Ba b at_ e n).2.1⟩∧(Ba b at_ e n).1≤b.length∧(Ba b at_ e n).2.1≤200:=by
 unfold Ba A_
 by_cases h0:e≠0
 ·rw [if_pos h0]
  exact ⟨⟨λ_=>h0,λ_ _ h1 _=>(h0 h1).elim,λh1 _=>(h0 h1).elim⟩,h,he⟩
 ·rw [if_neg h0]
  obtain rfl:e=0:=Decidable.of_not_not h0
  by_cases h1:b.length - at_<n
  ·rw [if_pos h1]
   refine ⟨⟨λ_=>(show (110:Nat)≠0 by decide),λy r _ hp=>?_,λ_ _=>(show (110:Nat)≠0 by decide)⟩,h,by show (110:Nat)≤200; omega⟩
   rw [if_neg (by show ¬ n≤(b.drop at_).length; rw [List.length_drop]; omega)] at hp
   cases hp
  ·rw [if_neg h1]
   refine ⟨⟨λh=>(h J).elim,λy r _ hp=>?_,λ_ hp=>?_⟩,by show at_+n≤_; omega,Nat.zero_le _⟩
   ·rw [if_pos (by show n≤(b.drop at_).length; rw [List.length_drop]; omega)] at hp
    cases hp
    refine ⟨?_,by rw [List.drop_drop]⟩
    unfold Nq
    rw [if_neg (by rw [List.length_take,List.length_drop]; omega)]
   ·rw [if_pos (by show n≤(b.drop at_).length; rw [List.length_drop]; omega)] at hp
    cases hp
abbrev RB (gr:Nat) (sl:Value) (at_ e:Nat) (R:AA):AA:=(gr,166,rrC sl at_ e)::R
def Rfd {α:Type} (p:Ps α) (val:α→Value→AA→Prop) (gr:Nat) (sl:Value) (b:Byt) (R:AA) (at_ e:Nat) (v:Value) (M:AA):Prop :=
 ∃ x a2 e2 N,After p ⟨b.drop at_,e⟩ x ⟨b.drop a2,e2⟩∧val x v N∧a2≤b.length∧e2≤200∧M=RB gr sl a2 e2 (R++N)
theorem OV (g n:Nat) (hn:n≤70368744177664):BS ⟨.slice (pA g) n n,[(g,5,(Dy (λ_=>[Value.int .u8 0]) n).toArray)]⟩ (List.replicate n 0):=by
 have e:(byL (List.replicate n (0:UInt8))).flatten=Dy (λ_=>[Value.int .u8 0]) n:=by
  rw [IF,List.map_replicate]
  induction n with
  | zero=>rfl
  | succ n ih=>rw [List.replicate_succ',EC,ih om]; rfl
 refine ⟨Dt _,DG _,.inr ⟨g,n,[],?_,?_,?_,?_⟩⟩
 ·rw [At,List.length_replicate,e,List.append_nil]
 ·rw [At,List.length_replicate]; exact Nat.zero_add _
 ·rw [At,List.length_replicate]; exact Nat.le_refl _
 ·simp only [maxLen]; omega
theorem D6 (w0:Base) (gr:Nat) (sl:Value) (b:Byt) (at_ e n:Nat) (R:AA) (hat:at_≤b.length) (he:e≤200) (hn:n≤1000000) (hl:b.length≤70368744177664) (hv:BytR (rdW w0.world) sl b) (w:World) (hw:St w0 w (RB gr sl at_ e R)) :
  AL 86 #[ptr gr,.int .i64 (n:Int)] w (AQ w0 (Rfd (A_ n) (λx v N=>ByN x v N∧x.length=n) gr sl b R at_ e)):=by
 obtain ⟨q1,q2,q3⟩:=LB b at_ e n hat he
 have q4:=PO b at_ e n
 have hv0:=hv
 obtain ⟨A,m,cp,rfl,h2,h3,h4,h5⟩:=hv
 obtain ⟨f,hf⟩:=xE (Ba b at_ e n)
 rw [← hf] at q1 q2 q3 q4
 refine Sy.enterT (args:=[ptr gr,.int .i64 (n:Int)]) hw Tryz.func86 J kL<|sC<|sP (.slice none 0 0)<|sA<|sp J<|sp J<|sP (pT gr 0)<|sS (rrV (.slice A m cp) at_ e) (qk 0 0 3 J J Bg)<|sp J<|Sy.callN kR 149 #[rrV (.slice A m cp) at_ e,.int .i64 (n:Int)] kF _ (λw' hw=>Hg w' (.slice A m cp) b at_ e n hat om hl (hv0.le (λg o u hu=>Aa (w0:=w0.inn) (R:=[]) hw (λ_ h=>by cases h) g o u (.inl hu)))) (λu M hM=>?_)
 rw [← hf] at hM
 obtain ⟨u,rfl,hu⟩:=hM
 have hub:=hu.byt
 obtain ⟨A2,n2,c2,rfl,k2,k3,k4,k5⟩:=hub
 refine sp J<|sp J<|sp J<|sM 164 (rrC (.slice none 0 0) 0 0) (λg5=>?_)
 refine Sy.movT (pre:=[(gr,166,rrC (.slice A m cp) at_ e)]) (T:=R++M)<|sw 1 J (rrC (.slice A m cp) f.1 f.2.1) (wA J)<|sp J<|sA<|sp J<|sS (rrV (.slice A m cp) f.1 f.2.1) (qk 1 0 3 J J Bg)<|sp J<|sP (pT gr 0)<|sw 0 J (rrC (.slice A m cp) f.1 f.2.1) (wA J)<|sG<|Sy.seq<|sC ?_
 obtain ⟨b1,hb1⟩:=xE (decide (n2<n))
 refine sp J<|sP (.int .i64 (n2:Int))<|sp J<|sS (.bool b1) (qls J J J hb1)<|sG ?_
 cases b1
 case' false =>
  have l1:=dN hb1
  have ep:Nq f.2.2 n=f.2.2:=if_neg om
  rw [ep] at q1 q4
  refine sU<|Sy.skip<|sB<|sp J<|sp J<|sG<|Sy.ret ?_
  exact Sy.retT1 (RB gr (.slice A m cp) f.1 f.2.1 (R++M)) J (.inl (show _=_ by kernel_rfl)) (λ_ h=>Mm h) ⟨_,_,_,M,q1,⟨hu,q4⟩,q2,q3,rfl⟩
 have l1:=dY hb1
 have ep:Nq f.2.2 n=List.replicate n 0:=if_pos om
 rw [ep] at q1 q4
 refine sT<|Sy.region<|sp J<|Sy.make kR 5 (Dy (λ_=>[Value.int .u8 0]) n).toArray (λg=>.slice (pA g) n n) (Sy.Makes.slice 27 5 _ _ 1 1 _ _ .i64 .i64 n _ J J J Ay Cu.info_u8 J J dZ J J J om om) (λgz=>?_)
 refine sp J<|Sy.nil<|sB<|sp J<|sp J<|sG<|Sy.ret ?_
 exact Sy.retT1 (RB gr (.slice A m cp) f.1 f.2.1 (R++[(gz,5,(Dy (λ_=>[Value.int .u8 0]) n).toArray)])) J (.inl (show _=_ by kernel_rfl)) (λ_ h=>h.less ((((List.sublist_append_left R M).append (List.Sublist.refl [(gz,5,(Dy (λ_=>[Value.int .u8 0]) n).toArray)])).cons (g5,164,rrC (.slice A m cp) f.1 f.2.1)).cons_cons (gr,166,rrC (.slice A m cp) f.1 f.2.1))) ⟨_,_,_,_,q1,⟨(OV gz n om).as,q4⟩,q2,q3,rfl⟩
theorem Ht (w0:Base) (gr:Nat) (sl:Value) (b:Byt) (at_ e k:Nat) (R:AA) (hat:at_≤b.length) (he:e≤200) (hk:k≤8) (hl:b.length≤70368744177664) (hv:BytR (rdW w0.world) sl b) (w:World) (hw:St w0 w (RB gr sl at_ e R)) :
  AL 69 #[ptr gr,.int .i64 (k:Int)] w (AQ w0 (Rfd (Bj k) (λx v N=>v=uZ (x:Int)∧x<18446744073709551616∧N=[]) gr sl b R at_ e)):=by
 refine Sy.enterT (args:=[ptr gr,.int .i64 (k:Int)]) hw Tryz.func69 J kL<|sC<|sP (uZ 0)<|sA<|sp J<|sp J<|Sy.callT (λw hw=>D6 w0.inn gr sl b at_ e k R hat he om hl hv w hw) (λu M hM=>?_)
 obtain ⟨x,a2,e2,N,q1,⟨q2,q3⟩,q4,q5,rfl⟩:=hM
 have hs:said x<18446744073709551616:=by
  have h1:=Cn x
  have h3:256 ^ x.length≤256 ^ 8:=Nat.pow_le_pow_right dZ om
  exact Nat.lt_of_lt_of_le h1 h3
 refine sS (uZ ((said x:Nat):Int)) (qg (λw' hw=>Ew w' u x om (q2.byt.le (λg o v h=>Aa (w0:=w0.inn) hw (R:=N) (λb hb=>List.mem_cons_of_mem _ (List.mem_append_right _ hb)) g o v (.inr h)))))<|sp J<|sG<|Sy.ret ?_
 exact Sy.retT1 (RB gr sl a2 e2 (R++[])) J (.inl (show _=_ by kernel_rfl)) (λ_ h=>h.less (((List.Sublist.refl R).append (List.nil_sublist N)).cons_cons _)) ⟨_,_,_,[],q1.bind (After.ret (said x) _),⟨rfl,hs,rfl⟩,q4,q5,rfl⟩
theorem E0 (w0:Base) (gr:Nat) (sl:Value) (b:Byt) (at_ e most:Nat) (R:AA) (hat:at_≤b.length) (he:e≤200) (hm:most≤1000000) (hl:b.length≤70368744177664) (hv:BytR (rdW w0.world) sl b) (w:World) (hw:St w0 w (RB gr sl at_ e R)) :
  AL 70 #[ptr gr,.int .i64 (most:Int)] w (AQ w0 (Rfd (Dw most) (λx v N=>v=.int .i64 (x:Int)∧x≤most∧N=[]) gr sl b R at_ e)):=by
 obtain ⟨q1,q2,q3,q4⟩:=GU b at_ e most hat he
 have hv0:=hv
 obtain ⟨A,m,cp,rfl,h2,h3,h4,h5⟩:=hv
 obtain ⟨f,hf⟩:=xE (gvN b at_ e most)
 rw [← hf] at q1 q2 q3 q4
 refine Sy.enterT (args:=[ptr gr,.int .i64 (most:Int)]) hw Tryz.func70 J kL<|sC<|sP (.int .i64 0)<|sA<|sp J<|sp J<|sP (pT gr 0)<|sS (rrV (.slice A m cp) at_ e) (qk 0 0 3 J J Bg)<|sp J<|sS (uZ (most:Int)) (Quiet.pure (λw=>Ce w _ _ _ most om J J))<|sS (.tuple #[rrV (.slice A m cp) f.1 f.2.1,uZ ((f.2.2:Nat):Int)]) (qg (λw' hw=>by rw [hf]; exact Gj w' (.slice A m cp) b at_ e most hat om hl (hv0.le (λg o u hu=>Aa (w0:=w0.inn) (R:=[]) hw (λ_ h=>by cases h) g o u (.inl hu)))))<|sp J<|sp J<|sp J<|sM 164 (rrC (.slice none 0 0) 0 0) (λg5=>?_)
 refine Sy.movT (pre:=[(gr,166,rrC (.slice A m cp) at_ e)]) (T:=R)<|sw 1 J (rrC (.slice A m cp) f.1 f.2.1) (wA J)<|sp J<|sA<|sp J<|sS (rrV (.slice A m cp) f.1 f.2.1) (qk 1 0 3 J J Bg)<|sp J<|sP (pT gr 0)<|sw 0 J (rrC (.slice A m cp) f.1 f.2.1) (wA J)<|sA<|sp J<|sS (iZ f.2.2) (Quiet.pure (λw=>GB w _ _ _ f.2.2 om J J))<|sp J<|sG<|Sy.ret ?_
 exact Sy.retT1 (RB gr (.slice A m cp) f.1 f.2.1 (R++[])) J (.inl (show _=_ by kernel_rfl)) (λ_ h=>by rw [List.append_nil]; exact Mm h) ⟨_,_,_,[],q1,⟨rfl,q4,rfl⟩,q2,q3,rfl⟩
theorem Fw (w0:Base) (gr:Nat) (sl:Value) (at_ e:Nat) {L:AA} (hL:(gr,166,rrC sl at_ e)∈L) (w:World) (hw:St w0 w L) :
  AL 71 #[ptr gr] w (Ai w (.bool (decide (e=0)))):=by
 have hb:=(hw.blk _ _ _ hL).2
 have hlt:=hb.lt
 obtain ⟨b1,hb1⟩:=xE (decide (e=0))
 rw [← hb1]
 refine Sy.enter (args:=[ptr gr]) Tryz.func71 J kL<|sC<|sP (.bool false)<|sA<|sp J<|sp J<|sP (pT gr 0)<|sP (pT gr 2)<|sS (.int .i64 (e:Int)) (Quiet.thereOne gr 2 28 _ _ J kR hlt _ (hb.cell 2) Ed J)<|sS (.bool b1) (qeq J J J hb1)<|sp J<|sG<|Sy.ret ?_
 exact rV (.bool b1) rfl
theorem wM {P:Program} {F:AK} {o:Oper} {g:Nat} {t:TypeId} (ty:TypeId) (A z v Z:List Value) (k f:Nat) (x y:Operand) (ho:o.op=.store ty x y) (hx:evF F x=pT g f) (hy:evF F y=.agg v.toArray) (hi:(P.info? ty).map (·.size)=some k) (hA:A.length=f) (hz:z.length=k) (hv:v.length=k) (h1:∀ u∈v,u.oneCell'=true):Sy.Writes P F o g t (A++(z++Z)).toArray (A++(v++Z)).toArray :=
 Sy.Writes.store f ty v.toArray x y ho hx hy (by rw [hi,List.size_toArray,hv]) (by rw [List.size_toArray,List.size_toArray,List.length_append,List.length_append]; omega) (by rw [List.all_toArray,List.all_eq_true]; exact h1) (by show B9 _ f v=_; exact DZ hA om)
theorem RR (x:Byt):∀ u∈x.map bv,u.oneCell'=true:=λu hu=>by obtain ⟨y,_,rfl⟩:=List.mem_map.1 hu; rfl
theorem EF (w0:Base) (gr:Nat) (sl:Value) (b:Byt) (at_ e:Nat) (R:AA) (hat:at_≤b.length) (he:e≤200) (hl:b.length≤70368744177664) (hv:BytR (rdW w0.world) sl b) (w:World) (hw:St w0 w (RB gr sl at_ e R)) :
  AL 127 #[ptr gr] w (AQ w0 (Rfd (A_ 32) (λx v N=>v=.agg (x.map bv).toArray∧x.length=32∧N=[]) gr sl b R at_ e)):=by
 refine Sy.enterT (args:=[ptr gr]) hw Tryz.func127 J kL<|sC<|sM 37 Z32.toArray (λg2=>?_)
 refine Sy.movT (pre:=[(gr,166,rrC sl at_ e)]) (T:=R)<|sA<|sp J<|Sy.callT (λw hw=>D6 w0.inn gr sl b at_ e 32 ((g2,37,Z32.toArray)::R) hat he dZ hl hv w hw) (λu M hM=>?_)
 obtain ⟨x,a2,e2,N,q1,⟨q2,q3⟩,q4,q5,rfl⟩:=hM
 obtain ⟨A,n,cp,rfl,k2,k3,k4,k5⟩:=q2.byt
 obtain ⟨gb,ob,rfl,hq⟩:=k5 (by intro h; rw [h] at q3; cases q3)
 refine sp J<|sA<|sM 37 Z32.toArray (λg4=>?_)
 refine Sy.movT (pre:=[(gr,166,rrC sl a2 e2),(g2,37,Z32.toArray)]) (T:=R++N)<|sG<|Sy.seq<|sC<|sP (.int .i64 0)<|sG<|Sy.block<|Sy.loopT (Y:=Unit) 32 (λi _=>[(0,ptr gr),(2,ptr g2),(3,.slice (some ⟨gb,ob,none⟩) n cp),(4,ptr g4),(5,.int .i64 (i:Int))]) (λi _=>[(gr,166,rrC sl a2 e2),(g2,37,Z32.toArray),(g4,37,((x.map bv).take i++Z32.drop i).toArray)]++(R++N)) (λ_ _=>True) () trivial ac5 (λ_ h=>h) (λi _ hi _=>?_)
 dsimp only
 refine Sy.seq<|sC ?_
 obtain ⟨b2,hb2⟩:=xE (decide (i<32))
 refine sp J<|sS (.bool b2) (qls J J J hb2)<|sG ?_
 cases b2
 case' false =>
  have l2:=dN hb2
  obtain rfl:i=32:=om
  have ec:(x.map bv).take 32++Z32.drop 32=x.map bv:=by
   rw [List.take_of_length_le (by rw [List.length_map,q3]; exact Nat.le_refl _),show Z32.drop 32=[] from rfl,List.append_nil]
  rw [ec]
  refine sU<|Sy.exit<|Sy.then_exit<|Sy.then_exit<|Sy.in_exit<|Sy.then_<|sC<|sS (.agg (x.map bv).toArray) (Quiet.mid 2 g4 0 32 37 37 (x.map bv) (x.map bv) _ _ J kR J DI J kR (by rw [List.drop_zero,List.take_of_length_le (by rw [List.length_map,q3]; exact Nat.le_refl _)]) (by rw [List.length_map,q3]; exact Nat.le_refl _))<|sw 1 J (x.map bv).toArray (Writes.row 37 (x.map bv) 32 _ _ J kR kR kR (by rw [List.length_map,q3]) kZ (RR x))<|sG<|Sy.ret ?_
  exact Sy.retT1 (RB gr sl a2 e2 (R++[])) J (.inl (Sy.Res.cell (ty':=37) g2 1 (x.map bv).toArray _ kZ J DI J (by rw [List.size_toArray,List.length_map,q3]; kernel_rfl) rfl)) (λ_ h=>h.less (((((List.Sublist.refl R).append (List.nil_sublist N)).cons (g4,37,(x.map bv).toArray)).cons (g2,37,(x.map bv).toArray)).cons_cons (gr,166,rrC sl a2 e2))) ⟨x,a2,e2,[],q1,⟨rfl,q3,rfl⟩,q4,q5,rfl⟩
 have l2:=dY hb2
 obtain ⟨u,hu⟩:∃ u,x[i]? = some u:=⟨_,List.getElem?_eq_getElem om⟩
 have hAl:((x.map bv).take i).length=i:=by rw [List.length_take,List.length_map,q3]; omega
 obtain ⟨z0,Z1,hz⟩:∃ z0 Z1,Z32.drop i=z0::Z1∧Z1=Z32.drop (i+1):=⟨_,_,List.drop_eq_getElem_cons (by rw [DS]; exact l2),rfl⟩
 obtain ⟨hz,hz1⟩:=hz
 have hnx:(x.map bv).take (i+1)++Z32.drop (i+1)=(x.map bv).take i++(bv u::Z1):=by
  rw [List.take_add_one,List.getElem?_map,hu, ← hz1,List.append_assoc]; rfl
 rw [hz]
 refine sT<|Sy.skip<|Sy.then_<|Sy.seq<|Sy.block<|Sy.region<|sp J<|sp J<|sp J<|sS (.pointer (some ⟨gb,ob+i*1,none⟩)) (Quiet.pure (Bl 27 _ _ _ (some ⟨gb,ob,none⟩) gb ob n cp i 1 .i64 J J J J Ay kF om))<|sS (bv u) (AH (R:=N) (g:=gb) (f:=ob+i*1) (.inr (by rw [Nat.mul_one]; exact hq i u hu)) (λb h=>List.mem_append_right _ (List.mem_append_right _ h)) J uy5)<|sS (.pointer (some ⟨g4,0+i*1,none⟩)) (Quiet.pure (BQ 37 _ _ _ g4 0 _ i 1 .i64 J J J DI kF l2))<|sw 2 J ((x.map bv).take i++(bv u::Z1)).toArray (Writes.one (0+i*1) 5 (bv u) _ _ J kR kR kR J J (by rw [List.size_toArray,List.length_append,hAl]; simp) (Aq (by rw [hAl]; omega)))<|Sy.nil<|Sy.in_<|Sy.then_<|Sy.region<|sp J<|sS (iZ (i+1)) (qad J J J)<|sp J<|Sy.nil ?_
 exact Sy.againT () l2 trivial ac5 (λw h=>by rw [hnx]; exact h)
def J6 {α:Type} (k:Nat) (rep:Rdr→List Value→α→Prop) (x:α) (v:Value) (N:AA):Prop:=∃ cs,v=.agg cs.toArray∧cs.length=k∧(∀ u∈cs,u.oneCell'=true)∧rep (rdB N) cs x
theorem QD (w:World) (sl:Value) (b:Byt) (at_ e:Nat) (hat:at_≤b.length) (hl:b.length≤70368744177664) (hv:BytR (rdW w) sl b) :
  AL 74 #[rrV sl at_ e] w (Ai w (iZ (if e=0∧at_<b.length then 113 else e))):=by
 obtain ⟨A,m,cp,rfl,h2,h3,h4,h5⟩:=hv
 rw [h2]
 refine Sy.enter (args:=[rrV (.slice A m cp) at_ e]) Tryz.func74 J kL<|sC<|sM 164 (rrC (.slice A m cp) at_ e) (λg1=>?_)
 refine sP (.int .i64 0)<|sG<|Sy.seq<|sC ?_
 obtain ⟨b1,hb1⟩:=xE (decide (e=0))
 refine sP (pT g1 2)<|sS (.int .i64 (e:Int)) (qc 0 2 J J Ed)<|sS (.bool b1) (qeq J J J hb1)<|sp J ?_
 cases b1
 ·have l1:=dN hb1
  rw [if_neg (λh=>l1 h.1)]
  refine sN<|sN<|sN<|sN<|sN<|sN<|sP (.bool false)<|sG<|sU<|Sy.skip<|sB<|sP (pT g1 2)<|sS (.int .i64 (e:Int)) (qc 0 2 J J Ed)<|sp J<|sG<|Sy.ret ?_
  exact rV (.int .i64 (e:Int)) J
 ·have l1:=dY hb1
  obtain ⟨b2,hb2⟩:=xE (decide (at_<m))
  refine sP (pT g1 1)<|sS (.int .i64 (at_:Int)) (qc 0 1 J J uy3)<|sP (pT g1 0)<|sS (.slice A m cp) (qc 0 0 J J Ay)<|sP (.int .i64 (m:Int))<|sS (.bool b2) (qls J J J hb2)<|sP (.bool b2)<|sG ?_
  cases b2
  ·rw [if_neg (λh=>of_decide_eq_false hb2.symm h.2)]
   refine sU<|Sy.skip<|sB<|sP (pT g1 2)<|sS (.int .i64 (e:Int)) (qc 0 2 J J Ed)<|sp J<|sG<|Sy.ret ?_
   exact rV (.int .i64 (e:Int)) J
  ·rw [if_pos ⟨l1,of_decide_eq_true hb2.symm⟩]
   refine sT<|sC<|sP (.int .i64 113)<|sG<|Sy.ret<|Sy.then_ret ?_
   exact rV (.int .i64 113) rfl
def Kl (b:Byt) (at_ e:Nat):Nat:=if e=0∧at_<b.length then 113 else e
theorem Lz (w0:Base) (gr:Nat) (sl:Value) (b:Byt) (at_ e:Nat) (R:AA) (he:e≤200) (hat:at_≤b.length) (hl:b.length≤70368744177664) (hv:BytR (rdW w0.world) sl b) (w:World) (hw:St w0 w (RB gr sl at_ e R)) :
  AL 34 #[ptr gr] w (AQ w0 (λv M=>v=iZ (if Kl b at_ e≠0 then 120 else 0)∧M=RB gr sl at_ e R)):=by
 have hv0:=hv
 obtain ⟨A,m,cp,rfl,h2,h3,h4,h5⟩:=hv
 obtain ⟨f,hf⟩:=xE (Kl b at_ e)
 have hfl:f≤200:=by rw [hf]; unfold Kl; split <;> omega
 rw [← hf]
 refine Sy.enterT (args:=[ptr gr]) hw Tryz.func34 J kL<|sC<|sP (.int .i64 0)<|sG<|Sy.seq<|sC ?_
 obtain ⟨b1,hb1⟩:=xE (decide (f≠0))
 refine sp J<|sp J<|sP (pT gr 0)<|sS (rrV (.slice A m cp) at_ e) (qk 0 0 3 J J Bg)<|sS (.int .i64 (f:Int)) (qg (λw' hw=>by rw [hf]; exact QD w' (.slice A m cp) b at_ e hat hl (hv0.le (λg o u hu=>Aa (w0:=w0.inn) (R:=[]) hw (λ_ h=>by cases h) g o u (.inl hu)))))<|sS (.bool b1) (qne J J J hb1)<|sG ?_
 cases b1
 ·rw [if_neg (of_decide_eq_false hb1.symm)]
  refine sU<|Sy.skip<|sB<|sP (.int .i64 0)<|sG<|Sy.ret ?_
  exact Sy.retT1 (RB gr (.slice A m cp) at_ e R) rfl (.inl (show _=_ by kernel_rfl)) (λ_ h=>h) ⟨rfl,rfl⟩
 ·rw [if_pos (of_decide_eq_true hb1.symm)]
  refine sT<|sC<|sP (.int .i64 120)<|sG<|Sy.ret<|Sy.then_ret ?_
  exact Sy.retT1 (RB gr (.slice A m cp) at_ e R) rfl (.inl (show _=_ by kernel_rfl)) (λ_ h=>h) ⟨rfl,rfl⟩
theorem L9 (w:World) (sl:Value) (b:Byt) (hv:BytR (rdW w) sl b):AL 32 #[sl] w (A0 w (λv M=>∃ g,v=ptr g∧M=[(g,166,rrC sl 0 0)])):=by
 obtain ⟨A,m,cp,rfl,h2,h3,h4,h5⟩:=hv
 refine Sy.enter (args:=[.slice A m cp]) Tryz.func32 J kL<|sC<|sP (.pointer none)<|sA<|sp J<|sP (rrV (.slice A m cp) 0 0)<|sP (rrV (.slice A m cp) 0 0)<|sM 166 (rrC (.slice A m cp) 0 0) (λg=>?_)
 refine sp J<|sG<|Sy.ret ?_
 exact Sy.retGM [(g,166,rrC (.slice A m cp) 0 0)] rfl (.inl (show _=_ by kernel_rfl)) (λ_ h=>h) ⟨g,rfl,rfl⟩
theorem After.stop {α:Type} {p:Ps α} {i n:Nat} {s s':RS} {xs:List α} (h:After (CK p i) s xs s') (he:s'.e≠0) (hin:i≤n):After (CK p n) s xs s' :=
 ⟨λ_=>he,λy r h0 hp=>by
  cases hi:CK p i s.rest with
  | none=>rw [Ig hi n hin] at hp; cases hp
  | some u =>
   obtain ⟨y1,r1⟩:=u
   obtain ⟨_,e⟩:=h.yes y1 r1 h0 hi
   rw [e] at he
   exact (he J).elim,λ_ _=>he⟩
theorem After.snoc {α:Type} {p:Ps α} {i:Nat} {s s1 s2:RS} {xs:List α} {x:α} (h:After (CK p i) s xs s1) (k:After p s1 x s2):After (CK p (i+1)) s (xs++[x]) s2 :=
 have q:=h.bind (q:=λl=>AJ p λx=>BO (l++[x])) (k.bind (q:=λx=>BO (xs++[x])) (After.ret (xs++[x]) s2))
 ⟨q.bad,λy r h0 hp=>q.yes y r h0 (by rw [← D2]; exact hp),λh0 hp=>q.no h0 (by rw [← D2]; exact hp)⟩
abbrev WB (gw:Nat) (bad:Bool) (s:Slc) (R:AA):AA:=[(gw,88,#[s.v,.bool bad])]++(s.bl++R)
theorem BA {gw:Nat} {bad:Bool} {s:Slc} {R:AA} {x:Nat×TypeId×Array Value} (h:x∈R):x∈WB gw bad s R:=List.mem_append_right _ (List.mem_append_right _ h)
theorem CQ {w0:Base} {gw:Nat} {bad:Bool} {s:Slc} {R X:AA} {w:World} (h:St w0 w (WB gw bad s (R++X))):St w0 w (WB gw bad s R):=h.less ((List.Sublist.refl _).append ((List.Sublist.refl _).append (List.sublist_append_left _ _)))
def WRw (gw:Nat) (bad:Bool) (b x:Byt) (R:AA) (_:Value) (M:AA):Prop:=∃ r,BS r (b++x)∧M=WB gw bad r R
def Wd (gw:Nat) (R:AA) (ok:Bool) (e:Byt) (k:Nat) (bad:Bool) (b:Byt) (_:Value) (M:AA):Prop:=∃ s' bad' b',Wrote ok e k bad b bad' b'∧BS s' b'∧M=WB gw bad' s' R
theorem CH (w0:Base) (gw:Nat) (bad:Bool) (s:Slc) (R:AA) (b:Byt) (v:Value) (x:Byt) (hb:BS s b) (hx:BytR (rdC w0 R) v x) (hl:b.length+x.length≤70368744177664) (w:World) (hw:St w0 w (WB gw bad s R)) :
  AL 83 #[ptr gw,v] w (AQ w0 (WRw gw bad b x R)):=by
 have hx0:=hx
 obtain ⟨A,n,cp,rfl,h2,h3,h4,h5⟩:=hx
 refine Sy.enterT (args:=[ptr gw,.slice A n cp]) hw Tryz.func83 J kL<|Sy.region<|sp J<|sp J<|sp J<|sP (pT gw 0)<|sS s.v (qc 0 0 J J Ay)<|sp J<|Sy.appendM (pre:=[(gw,88,#[s.v,.bool bad])]) (T:=R) kR 27 5 _ _ 1 1 Ay Cu.info_u8 J J J J dZ _ _ J hb kR (Dt x) (DG x) A n cp (by rw [At,h2]) h3 kR (λr=>BytR.from (w0:=w0.inn) hx0 (λy hy=>List.mem_append_right _ (List.mem_append_right _ hy))) (by rw [At]; omega) (by rw [At]; simp only [maxLen]; omega) (λr hr=>?_)
 have hr':BS r (b++x):=by show r.Is 5 1 _; rw [E5]; exact hr
 refine sp J<|sP (pT gw 0)<|sw 0 J #[r.v,.bool bad] (Writes.one 0 27 r.v _ _ J kR kR kR hr.cells.1 hr.cells.2 (Nat.succ_pos _) kR)<|Sy.nil ?_
 exact Sy.retT0 J (WB gw bad r R) (λ_ h=>h) (λ_=>⟨r,hr',rfl⟩)
theorem KK (w0:Base) (gw:Nat) (bad:Bool) (s:Slc) (R:AA) (b:Byt) (n k:Nat) (hn:n<18446744073709551616) (hk:k≤8) (hb:BS s b) (hl:b.length+8≤70368744177664) (w:World) (hw:St w0 w (WB gw bad s R)) :
  AL 63 #[ptr gw,.int .u64 (n:Int),.int .i64 (k:Int)] w (AQ w0 (WRw gw bad b (nb k n) R)):=by
 refine Sy.enterT (args:=[ptr gw,.int .u64 (n:Int),.int .i64 (k:Int)]) hw Tryz.func63 J kL<|Sy.region<|sp J<|sp J<|sp J<|Sy.callN kR 115 #[.int .u64 (n:Int),.int .i64 (k:Int)] kF _ (λw' _=>Dj w' n k hn hk) (λu M hM=>?_)
 refine Sy.permS (M:=WB gw bad s (R++M)) (List.Perm.of_eq (by simp only [List.append_assoc]))<|Sy.callT (λw hw=>CH w0.inn gw bad s (R++M) b u (nb k n) hb (hM.byt.le (λg o v h=>.inr (Ac (λx hx=>List.mem_append_right _ hx) g o v h))) (by rw [Ch]; omega) w hw) (λv M2 hM2=>?_)
 obtain ⟨r,hr,rfl⟩:=hM2
 refine Sy.nil ?_
 exact Sy.retT0 J (WB gw bad r R) (λ_ h=>CQ h) (λ_=>⟨r,hr,rfl⟩)
theorem NQ (w:World) (x:Byt) (hx:x.length=32):AL 191 #[.agg (x.map bv).toArray] w (A0 w (ByN x)):=by
 have hxl:(x.map bv).length=32:=by rw [List.length_map,hx]
 refine Sy.enter (args:=[.agg (x.map bv).toArray]) Tryz.func191 J kL<|sC<|sM 37 (x.map bv).toArray (λg1=>?_) kR (λw=>An J J kZ hxl w)
 refine sP (.slice none 0 0)<|sA<|sP (.slice none 0 0)<|sG<|Sy.seq<|sC<|sP (.int .i64 0)<|sG<|Sy.block<|Sy.loopT (Y:=Slc) 32 (λi y=>[(1,ptr g1),(3,y.v),(4,.int .i64 (i:Int))]) (λi y=>[(g1,37,(x.map bv).toArray)]++(y.bl++[])) (λi y=>BS y (x.take i)) nilS BS.nil ac3 (λ_ h=>h) (λi r hi hs=>?_)
 dsimp only at hs ⊢
 refine Sy.seq<|sC ?_
 obtain ⟨b2,hb2⟩:=xE (decide (i<32))
 refine sp J<|sS (.bool b2) (qls J J J hb2)<|sG ?_
 cases b2
 case' false =>
  have l2:=dN hb2
  obtain rfl:i=32:=om
  rw [List.take_of_length_le om] at hs
  refine sU<|Sy.exit<|Sy.then_exit<|Sy.then_exit<|Sy.in_exit<|Sy.then_<|sC<|sp J<|sp J<|sG<|Sy.ret ?_
  exact Sy.retGM r.bl J (.inl (show _=_ by kernel_rfl)) (λ_ h=>by rw [List.append_nil] at h; exact h.less (List.sublist_cons_self _ _)) hs.as
 have l2:=dY hb2
 obtain ⟨u,hu⟩:∃ u,x[i]? = some u:=⟨_,List.getElem?_eq_getElem om⟩
 refine sT<|Sy.skip<|Sy.then_<|Sy.seq<|Sy.block<|Sy.region<|sp J<|sp J<|sS (.pointer (some ⟨g1,0+i*1,none⟩)) (Quiet.pure (BQ 37 _ _ _ g1 0 _ i 1 .i64 J J J DI kF l2))<|sS (bv u) (Quiet.cell 0 g1 (0+i*1) 37 5 (x.map bv).toArray _ _ J kR J uy5 J _ (by rw [Nat.zero_add,Nat.mul_one,List.getElem?_toArray,List.getElem?_map,hu]; rfl)) ?_
 refine Sy.make kR 5 #[bv u] (λg=>.slice (pA g) 1 1) kF (λg2=>?_)
 refine Sy.movT (pre:=[(g1,37,(x.map bv).toArray)]) (T:=r.bl++[])<|Sy.appendR (pre:=[(g1,37,(x.map bv).toArray),(g2,5,#[bv u])]) (T:=[]) kR 27 5 _ _ 1 1 Ay Cu.info_u8 J J J J dZ _ _ J hs kR [bv u] rfl (λu hu=>by rw [List.mem_singleton.1 hu]; rfl) 1 g2 5 kR kR (by rw [At,List.length_take]; omega) (by rw [At,List.length_take]; simp only [maxLen]; omega) (λr' hr=>?_)
 refine sp J<|Sy.nil<|Sy.in_<|Sy.then_<|Sy.region<|sp J<|sS (iZ (i+1)) (qad J J J)<|sp J<|Sy.nil ?_
 have hr':BS r' (x.take (i+1)):=by
  show r'.Is 5 1 _
  rw [List.take_add_one,hu,show byL (x.take i++(some u).toList)=byL (x.take i)++[[bv u]] from E5 _ _]
  exact hr
 exact Sy.againT r' l2 hr' ac3 (λw h=>h.less ((List.sublist_cons_self (g2,5,#[bv u]) (r'.bl++[])).cons_cons (g1,37,(x.map bv).toArray)))
theorem Ko (w0:Base) (gw:Nat) (bad:Bool) (s:Slc) (R:AA) (b:Byt) (x:Byt) (hx:x.length=32) (hb:BS s b) (hl:b.length+32≤70368744177664) (w:World) (hw:St w0 w (WB gw bad s R)) :
  AL 144 #[ptr gw,.agg (x.map bv).toArray] w (AQ w0 (WRw gw bad b x R)):=by
 have hxl:(x.map bv).length=32:=by rw [List.length_map,hx]
 refine Sy.enterT (args:=[ptr gw,.agg (x.map bv).toArray]) hw Tryz.func144 J kL<|sC<|sM 37 (x.map bv).toArray (λg3=>?_) kR (λw=>An J J kZ hxl w)
 refine Sy.permS (M:=WB gw bad s (R++[(g3,37,(x.map bv).toArray)])) (List.Perm.of_eq (by simp only [List.append_assoc]))<|Sy.nil<|Sy.then_<|Sy.region<|sp J<|sS (.agg (x.map bv).toArray) (Bd (R:=[(g3,37,(x.map bv).toArray)]) (g:=g3) (f:=0) (k:=32) (cs:=x.map bv) (λi u hu=>.inr ⟨_,_,List.mem_singleton.2 J,by rw [Nat.zero_add,List.getElem?_toArray]; exact hu⟩) (λy hy=>BA (List.mem_append_right R hy)) hxl J DI) ?_
 refine Sy.callN kR 191 #[.agg (x.map bv).toArray] kF _ (λw' _=>NQ w' x hx) (λu M hM=>?_)
 refine Sy.permS (M:=WB gw bad s (R++([(g3,37,(x.map bv).toArray)]++M))) (List.Perm.of_eq (by simp only [List.append_assoc]))<|Sy.callT (λw hw=>CH w0.inn gw bad s (R++([(g3,37,(x.map bv).toArray)]++M)) b u x hb (hM.byt.le (λg o v h=>.inr (Ac (λy hy=>List.mem_append_right _ (List.mem_append_right _ hy)) g o v h))) om w hw) (λv M2 hM2=>?_)
 obtain ⟨r,hr,rfl⟩:=hM2
 refine Sy.nil ?_
 exact Sy.retT0 J (WB gw bad r R) (λ_ h=>CQ h) (λ_=>⟨r,hr,rfl⟩)
theorem BF (w0:Base) (gw:Nat) (bad ok:Bool) (s:Slc) (R:AA) (w:World) (hw:St w0 w (WB gw bad s R)) :
  AL 116 #[ptr gw,.bool ok] w (AQ w0 (λ_ M=>M=WB gw (bad || !ok) s R)):=by
 refine Sy.enterT (args:=[ptr gw,.bool ok]) hw Tryz.func116 J kL<|sC<|sp J<|sP (.bool (!ok))<|sG ?_
 cases ok
 ·rw [show (bad || !false)=true by cases bad <;> rfl]
  refine sT<|Sy.region<|sp J<|sp J<|sP (pT gw 1)<|sw 0 J #[s.v,.bool true] (wO 1 4 (.bool true) rfl)<|Sy.nil ?_
  exact Sy.retT0 (R:=λ_ M=>M=WB gw true s R) rfl (WB gw true s R) (λ_ h=>h) (λ_=>rfl)
 ·rw [show (bad || !true)=bad by cases bad <;> rfl]
  refine sU<|Sy.skip ?_
  exact Sy.retT0 (R:=λ_ M=>M=WB gw bad s R) rfl (WB gw bad s R) (λ_ h=>h) (λ_=>rfl)
theorem Ez (w0:Base) (gw:Nat) (bad:Bool) (s:Slc) (R:AA) (b:Byt) (n most:Nat) (hn:n≤1000000000000) (hm:most≤1000000) (hb:BS s b) (hl:b.length+9≤70368744177664) (w:World) (hw:St w0 w (WB gw bad s R)) :
  AL 64 #[ptr gw,.int .i64 (n:Int),.int .i64 (most:Int)] w (AQ w0 (Wd gw R (decide (n≤most)) (Af n) 9 bad b)):=by
 refine Sy.enterT (args:=[ptr gw,.int .i64 (n:Int),.int .i64 (most:Int)]) hw Tryz.func64 J kL<|sC ?_
 obtain ⟨ok,hok⟩:=xE (decide (n≤most))
 rw [← hok]
 refine sp J<|sp J<|sp J<|sS (.bool ok) (qle J J J hok)<|Sy.callT (λw hw=>BF w0.inn gw bad ok s R w hw) (λv M hM=>?_)
 subst hM
 refine Sy.nil<|Sy.then_<|Sy.region<|sp J<|sp J<|sS (uZ (n:Int)) (Quiet.pure (λw=>Ce w _ _ _ n om J J))<|Sy.callN kR 117 #[uZ (n:Int)] kF _ (λw' _=>DV w' n om) (λu M hM=>?_)
 refine Sy.permS (M:=WB gw (bad || !ok) s (R++M)) (List.Perm.of_eq (by simp only [List.append_assoc])) ?_
 have hvl:=Cj n
 refine Sy.callT (λw hw=>CH w0.inn gw (bad || !ok) s (R++M) b u (Af n) hb (hM.byt.le (λg o v h=>.inr (Ac (λx hx=>List.mem_append_right _ hx) g o v h))) om w hw) (λv M2 hM2=>?_)
 obtain ⟨r,hr,rfl⟩:=hM2
 refine Sy.nil ?_
 have q:=(Wrote.must ok bad b).then_ (Wrote.raw (Af n) (bad || !ok) b hvl)
 rw [Bool.and_true] at q
 exact Sy.retT0 J (WB gw (bad || !ok) r R) (λ_ h=>CQ h) (λ_=>⟨r,bad || !ok,b++Af n,q,hr,rfl⟩)
theorem ON (w0:Base) (gw:Nat) (bad:Bool) (s:Slc) (R:AA) (w:World) (hw:St w0 w (WB gw bad s R)) :
  AL 30 #[ptr gw] w (AQ w0 (λv M=>v=(if bad=true then .tuple #[.slice none 0 0,.int .i64 120] else .tuple #[s.v,.int .i64 0])∧M=WB gw bad s R)):=by
 refine Sy.enterT (args:=[ptr gw]) hw Tryz.func30 J kL<|sC<|sP (.slice none 0 0)<|sP (.int .i64 0)<|sG<|Sy.seq<|sC<|sp J<|sp J<|sP (pT gw 1)<|sS (.bool bad) (qc 0 1 J J uy4)<|sG ?_
 cases bad
 ·rw [if_neg dZ]
  refine sU<|Sy.skip<|sB<|sp J<|sp J<|sP (pT gw 0)<|sS s.v (qc 0 0 J J Ay)<|sp J<|sP (.int .i64 0)<|sG<|Sy.ret ?_
  exact Sy.retT2 (WB gw false s R) rfl (.inl (show _=_ by kernel_rfl)) (.inl (show _=_ by kernel_rfl)) (λ_ h=>h) ⟨rfl,rfl⟩
 ·rw [if_pos J]
  refine sT<|sC<|sP (.slice none 0 0)<|sP (.int .i64 120)<|sG<|Sy.ret<|Sy.then_ret ?_
  exact Sy.retT2 (WB gw true s R) rfl (.inl (show _=_ by kernel_rfl)) (.inl (show _=_ by kernel_rfl)) (λ_ h=>h) ⟨rfl,rfl⟩
theorem RT {P:Program} {w0:Base} {n:Nat} {Q:Exit→Act→World→Prop} {F:AK} {L:AA} {ops:Array Oper} {ex:Nat→Bool} {fuel:Nat} {listed:Array Bool} {k:Nat} {oi:Oper} (hi0:ops.toList[k]? = some oi) (hg:Cm ops F oi=some true) (hex:ex k=true) (h:∀ Q',(∀ F' L',wpD P w0 n ops Q ex F' L' fuel (listed.setIfInBounds k true)→wpS P w0 n ops Q' F' L' [])→wpS P w0 n ops Q' F L [oi]):wpO P w0 n ops Q ex F L fuel listed k :=
 ⟨oi,by simpa using hi0,hg,λa w ha hw w1 h1 K hK=>by
  have q:=h (PX Q K) (λF' L' hd a' w' ha' hw'=>wpList_nil (hK _ _ (λe=>by rw [hex] at e; cases e) (hd a' w' ha' hw'))) a w1 ha (hw.gr h1)
  unfold wpList at q
  rw [if_pos (ha.wanted hg)] at q
  rcases q with q | ⟨_,a',w',q⟩
  ·exact MC (K':=K) q
  ·exact q.elim⟩
theorem EW {P:Program} {w0:Base} {n:Nat} {Q:Exit→Act→World→Prop} {F:AK} {L:AA} {ops:Array Oper} {ex:Nat→Bool} {fuel:Nat} {listed:Array Bool} {T:Type} {FF:T→AK} {LL:T→AA} {H:T→Prop} {li:Array Bool} (h:∀ x,H x→wpD P w0 n ops Q ex (FF x) (LL x) fuel li) (x:T) (hx:H x) (hl:listed=li) (hF:∀ p∈FF x,F.lookup p.1=some p.2) (p:L.Perm (LL x)):wpD P w0 n ops Q ex F L fuel listed:=λa w ha hw=>by
 subst hl
 exact h x hx a w (ha.all hF) (hw.perm p)
def DN (lo hi:Nat):Ps Int:=AJ (Bj 1) λn=>AJ (BJ (decide (lo≤n∧n≤hi))) λ_=>BO (n:Int)
theorem E4 (w0:Base) (gr:Nat) (sl:Value) (at_ e:Nat) (R:AA) (w:World) (hw:St w0 w (RB gr sl at_ e R)) :
  AL 148 #[ptr gr] w (AQ w0 (λ_ M=>M=RB gr sl at_ (if e=0 then 120 else e) R)):=by
 refine Sy.enterT (args:=[ptr gr]) hw Tryz.func148 J kL<|sC ?_
 obtain ⟨b1,hb1⟩:=xE (decide (e=0))
 refine sp J<|sp J<|sP (pT gr 0)<|sP (pT gr 2)<|sS (.int .i64 (e:Int)) (qc 0 2 J J Ed)<|sS (.bool b1) (qeq J J J hb1)<|sG ?_
 cases b1
 ·rw [if_neg (of_decide_eq_false hb1.symm)]
  refine sU<|Sy.skip ?_
  exact Sy.retT0 J (RB gr sl at_ e R) (λ_ h=>h) (λ_=>by rfl)
 ·rw [if_pos (of_decide_eq_true hb1.symm)]
  refine sT<|Sy.region<|sp J<|sp J<|sP (pT gr 0)<|sP (pT gr 2)<|sw 0 J (rrC sl at_ 120) (wO 2 28 (.int .i64 120) rfl)<|Sy.nil ?_
  exact Sy.retT0 J (RB gr sl at_ 120 R) (λ_ h=>h) (λ_=>by rfl)
theorem Pa (w0:Base) (gr:Nat) (sl:Value) (b:Byt) (at_ e:Nat) (R:AA) (hat:at_≤b.length) (he:e≤200) (hl:b.length≤70368744177664) (hv:BytR (rdW w0.world) sl b) (w:World) (hw:St w0 w (RB gr sl at_ e R)) :
  AL 69 #[ptr gr,.int .i64 1] w (AQ w0 (Rfd (Bj 1) (λx v N=>v=uZ (x:Int)∧x<256∧N=[]) gr sl b R at_ e)):=by
 refine Sy.enterT (args:=[ptr gr,.int .i64 1]) hw Tryz.func69 J kL<|sC<|sP (uZ 0)<|sA<|sp J<|sp J<|Sy.callT (λw hw=>D6 w0.inn gr sl b at_ e 1 R hat he om hl hv w hw) (λu M hM=>?_)
 obtain ⟨x,a2,e2,N,q1,⟨q2,q3⟩,q4,q5,rfl⟩:=hM
 have hs:said x<256:=by
  have h1:=Cn x
  rw [q3] at h1
  exact h1
 refine sS (uZ ((said x:Nat):Int)) (qg (λw' hw=>Ew w' u x om (q2.byt.le (λg o v h=>Aa (w0:=w0.inn) hw (R:=N) (λb hb=>List.mem_cons_of_mem _ (List.mem_append_right _ hb)) g o v (.inr h)))))<|sp J<|sG<|Sy.ret ?_
 exact Sy.retT1 (RB gr sl a2 e2 (R++[])) J (.inl (show _=_ by kernel_rfl)) (λ_ h=>h.less (((List.Sublist.refl R).append (List.nil_sublist N)).cons_cons _)) ⟨_,_,_,[],q1.bind (After.ret (said x) _),⟨rfl,hs,rfl⟩,q4,q5,rfl⟩
theorem DY (lo hi:Nat) (w0:Base) (gr:Nat) (sl:Value) (b:Byt) (at_ e:Nat) (R:AA) (hat:at_≤b.length) (he:e≤200) (hl:b.length≤70368744177664) (hv:BytR (rdW w0.world) sl b) (w:World) (hw:St w0 w (RB gr sl at_ e R)) :
  AL 85 #[ptr gr,.int .i64 (lo:Int),.int .i64 (hi:Int)] w (AQ w0 (Rfd (DN lo hi) (λx v N=>v=.int .i64 x∧N=[]) gr sl b R at_ e)):=by
 refine Sy.enterT (args:=[ptr gr,.int .i64 (lo:Int),.int .i64 (hi:Int)]) hw Tryz.func85 J kL<|sC<|sP (.int .i64 0)<|sA<|sp J<|Sy.callT (λw hw=>Pa w0.inn gr sl b at_ e R hat he hl hv w hw) (λu M hM=>?_)
 obtain ⟨n,a2,e2,N,q1,⟨rfl,q2,rfl⟩,q4,q5,rfl⟩:=hM
 rw [List.append_nil]
 refine sS (iZ n) (Quiet.pure (λw=>GB w _ _ _ n om J J))<|sp J<|sG<|Sy.seq ?_
 obtain ⟨bd,hbd⟩:=xE (!decide (lo≤n∧n≤hi))
 refine Sy.seq<|De [(0,ptr gr),(7,.int .i64 (n:Int)),(18,.bool bd)] (RB gr sl a2 e2 R) ?_ ?_
 ·refine Sy.region ?_
  obtain ⟨b1,hb1⟩:=xE (decide (n<lo))
  refine sp J<|sp J<|sS (.bool b1) (qls J J J hb1)<|sp J ?_
  cases b1
  ·obtain ⟨b2,hb2⟩:=xE (decide (hi<n))
   have l1:=dN hb1
   obtain rfl:bd=b2:=by
    rw [hbd,hb2]
    by_cases h:hi<n
    ·rw [decide_eq_true h,decide_eq_false om]; rfl
    ·rw [decide_eq_false h,decide_eq_true om]; rfl
   refine sp J<|sp J<|sS (.bool bd) (qgt J J J hb2)<|sP (.bool bd)<|Sy.nil ?_
   exact BK ac3 (λ_ h=>h)
  ·have l1:=dY hb1
   obtain rfl:bd=true:=by rw [hbd,decide_eq_false om]; rfl
   refine sN<|sN<|sN<|sP (.bool true)<|Sy.nil ?_
   exact BK ac3 (λ_ h=>h)
 refine Sy.then_ ?_
 cases bd
 ·have l2:decide (lo≤n∧n≤hi)=true:=by
   cases h:decide (lo≤n∧n≤hi) with
   | true=>rfl
   | false=>rw [h] at hbd; cases hbd
  refine sU<|Sy.skip<|sB<|sp J<|sp J<|sG<|Sy.ret ?_
  exact Sy.retT1 (RB gr sl a2 e2 (R++[])) J (.inl (show _=_ by kernel_rfl)) (λ_ h=>by rw [List.append_nil]; exact h) ⟨(n:Int),_,_,[],q1.bind (by rw [l2]; exact After.ret _ _),⟨rfl,rfl⟩,q4,q5,rfl⟩
 ·have l2:decide (lo≤n∧n≤hi)=false:=by
   cases h:decide (lo≤n∧n≤hi) with
   | false=>rfl
   | true=>rw [h] at hbd; cases hbd
  obtain ⟨e3,he3⟩:=xE (if e2=0 then 120 else e2)
  have l3:e3≠0:=by rw [he3]; split <;> omega
  refine sT<|Sy.region<|sp J<|Sy.callT (λw hw=>E4 w0.inn gr sl a2 e2 R w hw) (λu M hM=>?_)
  subst hM
  rw [← he3]
  refine Sy.nil<|sB<|sp J<|sp J<|sG<|Sy.ret ?_
  exact Sy.retT1 (RB gr sl a2 e3 (R++[])) J (.inl (show _=_ by kernel_rfl)) (λ_ h=>by rw [List.append_nil]; exact h) ⟨(n:Int),_,_,[],q1.bind (by rw [l2]; exact After.mustN _ l3),⟨rfl,rfl⟩,q4,by rw [he3]; split <;> omega,rfl⟩
def okS (lo hi:Nat) (z:Int):Bool:=decide ((lo:Int)≤z) && decide (z≤(hi:Int))
theorem FK (w0:Base) (gw:Nat) (bad:Bool) (s:Slc) (R:AA) (b:Byt) (lo hi:Nat) (z:Int) (hb:BS s b) (hl:b.length+1≤70368744177664) (w:World) (hw:St w0 w (WB gw bad s R)) :
  AL 82 #[ptr gw,.int .i64 z,.int .i64 (lo:Int),.int .i64 (hi:Int)] w (AQ w0 (Wd gw R (okS lo hi z) [CZ z] 1 bad b)):=by
 refine Sy.enterT (args:=[ptr gw,.int .i64 z,.int .i64 (lo:Int),.int .i64 (hi:Int)]) hw Tryz.func82 J kL ?_
 obtain ⟨ok,hok⟩:=xE (okS lo hi z)
 obtain ⟨b1,hb1⟩:=xE (decide ((lo:Int)≤z))
 obtain ⟨b2,hb2⟩:=xE (decide (z≤(hi:Int)))
 have e:ok=(b1 && b2):=by rw [hok,hb1,hb2]; rfl
 rw [← hok]
 refine Sy.seq<|De [(0,ptr gw),(1,.int .i64 z)] (WB gw (bad || !ok) s R) ?_ ?_
 ·refine Sy.region ?_
  refine sp J<|sp J<|sp J<|sS (.bool b1) (Quiet.pure (AD .geq _ _ _ .i64 _ _ _ J J J (Dn _ _ _ _ _ (by rw [hb1]))))<|sp J ?_
  cases b1
  case' false =>
   obtain rfl:ok=false:=e
   refine sN<|sN<|sN<|sP (.bool false)<|Sy.callT (λw hw=>BF w0.inn gw bad false s R w hw) (λu M hM=>?_)
  case' true =>
   obtain rfl:ok=b2:=e
   refine sp J<|sp J<|sS (.bool ok) (Quiet.pure (AD .leq _ _ _ .i64 _ _ _ J J J (C' _ _ _ _ _ (by rw [hb2]))))<|sP (.bool ok)<|Sy.callT (λw hw=>BF w0.inn gw bad ok s R w hw) (λu M hM=>?_)
  all_goals
   subst hM
   refine Sy.nil ?_
   exact BK ac2 (λ_ h=>h)
 refine Sy.then_<|Sy.region<|sp J<|sp J<|sS (bv (CZ z)) (Quiet.pure (λw=>M7 w _ _ _ z J J))<|Sy.make kR 5 #[bv (CZ z)] (λg=>.slice (pA g) 1 1) kF (λg1=>?_)
 refine Sy.permS (M:=WB gw (bad || !ok) s (R++[(g1,5,#[bv (CZ z)])])) (List.Perm.of_eq (by simp only [List.append_assoc]))<|Sy.callT (λw hw=>CH w0.inn gw (bad || !ok) s (R++[(g1,5,#[bv (CZ z)])]) b (.slice (pA g1) 1 1) [CZ z] hb ⟨_,_,_,rfl,rfl,Nat.le_refl _,by decide,λ_=>⟨g1,0,rfl,λj u hj=>.inr ⟨5,#[bv (CZ z)],List.mem_append_right _ (List.mem_singleton.2 J),by
  cases j with
  | zero=>cases hj; rfl
  | succ j=>cases hj⟩⟩⟩ (by show _+1≤_; omega) w hw) (λv M hM=>?_)
 obtain ⟨r,hr,rfl⟩:=hM
 refine Sy.nil ?_
 have q:=(Wrote.must ok bad b).then_ (Wrote.raw [CZ z] (bad || !ok) b (k:=1) (Nat.le_refl _))
 rw [Bool.and_true] at q
 exact Sy.retT0 J (WB gw (bad || !ok) r R) (λ_ h=>CQ h) (λ_=>⟨r,bad || !ok,b++[CZ z],q,hr,rfl⟩)
theorem ByN.nil:ByN [] (.slice none 0 0) []:=⟨none,0,0,rfl,BS.nil⟩
theorem NP (w:World) (v:Value) (x:Byt) (hv:BytR (rdW w) v x) (hl:x.length≤70368744170000):AL 177 #[v] w (A0 w (ByN (Af x.length++x))):=by
 have hv0:=hv
 obtain ⟨A,n,cp,rfl,h2,h3,h4,h5⟩:=hv
 have hn9:=Cj x.length
 refine Sy.enter (args:=[.slice A n cp]) Tryz.func177 J kL<|sC<|sP (.slice none 0 0)<|sA<|sp J<|sP (.int .i64 (n:Int))<|sS (uZ (n:Int)) (Quiet.pure (λw=>Ce w _ _ _ n om J J))<|Sy.callN kR 117 #[uZ (n:Int)] kF _ (λw' _=>DV w' n om) (λu M hM=>?_)
 obtain ⟨A1,n1,c1,rfl,hs⟩:=hM
 refine sp J<|sA<|sp J<|sp J<|Sy.permS (M:=[]++(M++[])) (List.Perm.of_eq (by simp))<|Sy.appendM (pre:=[]) (r:=⟨.slice A1 n1 c1,M⟩) (T:=[]) kR 27 5 _ _ 1 1 Ay Cu.info_u8 J J J J dZ _ _ J hs kR (Dt x) (DG x) A n cp (by rw [At,h2]) h3 kR (λr=>BytR.from (w0:=Base.of w) (R:=[]) (hv0.le D5) (λy hy=>by cases hy)) (by rw [At, ← h2]; omega) (by rw [At, ← h2]; simp only [maxLen]; omega) (λr hr=>?_)
 have hr':BS r (Af x.length++x):=by
  show r.Is 5 1 _
  rw [E5,h2]
  exact hr
 refine sp J<|sA<|sp J<|sp J<|sG<|Sy.ret ?_
 exact Sy.retGM r.bl J (.inl (show _=_ by kernel_rfl)) (λ_ h=>h.less (List.sublist_append_left _ _)) hr'.as
def gtN (b:Byt) (at_ e most:Nat):Nat×Nat×Byt:=if (gvN b at_ e most).2.1≠0 then ((gvN b at_ e most).1,(gvN b at_ e most).2.1,[]) else if b.length - (gvN b at_ e most).1<(gvN b at_ e most).2.2 then (at_,110,[]) else ((gvN b at_ e most).1+(gvN b at_ e most).2.2,0,(b.drop (gvN b at_ e most).1).take (gvN b at_ e most).2.2)
theorem OE (b:Byt) (at_ e most:Nat) (h:at_≤b.length) (he:e≤200):After (Bu most) ⟨b.drop at_,e⟩ (gtN b at_ e most).2.2 ⟨b.drop (gtN b at_ e most).1,(gtN b at_ e most).2.1⟩∧(gtN b at_ e most).1≤b.length∧(gtN b at_ e most).2.1≤200:=by
 obtain ⟨q1,q2,q3,q4⟩:=GU b at_ e most h he
 unfold gtN
 obtain ⟨f,hf⟩:=xE (gvN b at_ e most)
 rw [← hf] at q1 q2 q3 q4 ⊢
 by_cases h1:f.2.1≠0
 ·rw [if_pos h1]
  refine ⟨q1.bind (q:=A_) ⟨λ_=>h1,λy r h0 _=>(h1 h0).elim,λh0 _=>(h1 h0).elim⟩,q2,q3⟩
 ·have h0:f.2.1=0:=Decidable.of_not_not h1
  rw [if_neg h1]
  by_cases h2:b.length - f.1<f.2.2
  ·rw [if_pos h2]
   refine ⟨q1.bind (q:=A_) ⟨λ_=>(show (110:Nat)≠0 by decide),λy r _ hp=>?_,λ_ _=>(show (110:Nat)≠0 by decide)⟩,h,by show (110:Nat)≤200; decide⟩
   unfold A_ at hp
   rw [if_neg (by show ¬ f.2.2≤(b.drop f.1).length; rw [List.length_drop]; omega)] at hp
   cases hp
  ·rw [if_neg h2]
   refine ⟨q1.bind (q:=A_) ⟨λh=>(h h0).elim,λy r _ hp=>?_,λ_ hp=>?_⟩,by show f.1+f.2.2≤_; omega,Nat.zero_le _⟩
   ·unfold A_ at hp
    rw [if_pos (by show f.2.2≤(b.drop f.1).length; rw [List.length_drop]; omega)] at hp
    cases hp
    exact ⟨rfl,by rw [List.drop_drop]⟩
   ·unfold A_ at hp
    rw [if_pos (by show f.2.2≤(b.drop f.1).length; rw [List.length_drop]; omega)] at hp
    cases hp
theorem Je (w:World) (sl:Value) (b:Byt) (at_ e most:Nat) (hat:at_≤b.length) (he:e≤200) (hmo:most<1000000) (hl:b.length≤70368744177664) (hv:BytR (rdW w) sl b) :
  AL 181 #[rrV sl at_ e,.int .i64 (most:Int)] w (A0 w (λv M=>∃ u,v=.tuple #[rrV sl (gtN b at_ e most).1 (gtN b at_ e most).2.1,u]∧ByN (gtN b at_ e most).2.2 u M)):=by
 have hv0:=hv
 obtain ⟨A,m,cp,rfl,h2,h3,h4,h5⟩:=hv
 obtain ⟨q1,q2,q3,q4⟩:=GU b at_ e most hat he
 unfold gtN
 obtain ⟨f,hf⟩:=xE (gvN b at_ e most)
 rw [← hf] at q1 q2 q3 q4 ⊢
 obtain ⟨T,hT⟩:=xE ((if f.2.1≠0 then (f.1,f.2.1,([]:Byt)) else if b.length - f.1<f.2.2 then (at_,110,[]) else (f.1+f.2.2,0,(b.drop f.1).take f.2.2)))
 rw [← hT]
 refine Sy.enter (args:=[rrV (.slice A m cp) at_ e,.int .i64 (most:Int)]) Tryz.func181 J kL<|sC<|sM 164 (rrC (.slice A m cp) at_ e) (λg2=>?_)
 refine sM 164 (rrC (.slice none 0 0) 0 0) (λg4=>?_)
 refine sP (.slice none 0 0)<|sA<|sS (rrV (.slice A m cp) at_ e) (qk 0 0 3 J J Bg)<|sp J<|sS (uZ (most:Int)) (Quiet.pure (λw=>Ce w _ _ _ most om J J))<|sp J<|sS (.bool false) (Quiet.pure (AD .lss _ _ _ .i64 _ _ _ J J J (C_ _ _ _ _ _ (decide_eq_false om))))<|sS (.tuple #[rrV (.slice A m cp) f.1 f.2.1,uZ ((f.2.2:Nat):Int)]) (qg (λw' hw=>by rw [hf]; exact Gj (e:=e) w' (.slice A m cp) b at_ most hat om hl (hv0.at hw)))<|sp J<|sp J<|sp J<|sM 164 (rrC (.slice none 0 0) 0 0) (λg6=>?_)
 refine sw 2 J (rrC (.slice A m cp) f.1 f.2.1) (wA J)<|sp J<|sG<|Sy.seq<|sC ?_
 obtain ⟨b1,hb1⟩:=xE (decide (f.2.1≠0))
 refine sP (pT g6 2)<|sS (.int .i64 (f.2.1:Int)) (qc 2 2 J J Ed)<|sS (.bool b1) (qne J J J hb1)<|sG ?_
 cases b1
 case' true =>
  have l1:=dY hb1
  rw [if_pos l1] at hT
  subst hT
  refine sT<|sC<|sS (rrV (.slice A m cp) f.1 f.2.1) (qk 2 0 3 J J Bg)<|sw 1 J (rrC (.slice A m cp) f.1 f.2.1) (wA J)<|sP (.slice none 0 0)<|sG<|Sy.ret<|Sy.then_ret ?_
  exact Sy.retGM2 [] rfl (.inl (Sy.Res.cell (ty':=164) g4 1 (rrC (.slice A m cp) f.1 f.2.1) _ kZ J Bg J kZ J)) (.inl (show _=_ by kernel_rfl)) (λ_ h=>h.none) ⟨_,rfl,ByN.nil⟩
 have l1:=dN hb1
 have l0:f.2.1=0:=Decidable.of_not_not l1
 rw [if_neg l1] at hT
 refine sU<|Sy.skip<|Sy.then_<|Sy.seq<|sC ?_
 obtain ⟨b2,hb2⟩:=xE (decide (m - f.1<f.2.2))
 refine sp J<|sP (pT g6 0)<|sS (.slice A m cp) (qc 2 0 J J Ay)<|sP (.int .i64 (m:Int))<|sP (pT g6 1)<|sS (.int .i64 (f.1:Int)) (qc 2 1 J J uy3)<|sS (iZ (m - f.1)) (qsb J J J)<|sS (uZ ((m - f.1:Nat):Int)) (Quiet.pure (λw=>Ce w _ _ _ (m - f.1) om J J))<|sS (.bool b2) (Quiet.pure (AD .gtr _ _ _ .u64 _ _ _ J J J (Dm _ _ _ _ _ (by rw [hb2]; exact decide_eq_decide.2 om))))<|sG ?_
 cases b2
 case' true =>
  have l2:=dY hb2
  rw [if_pos om] at hT
  subst hT
  refine sT<|sC<|sP (pT g2 2)<|sw 0 J (rrC (.slice A m cp) at_ 110) (wO 2 28 (.int .i64 110) rfl)<|sA<|sS (rrV (.slice A m cp) at_ 110) (qk 0 0 3 J J Bg)<|sw 1 J (rrC (.slice A m cp) at_ 110) (wA J)<|sP (.slice none 0 0)<|sG<|Sy.ret<|Sy.then_ret ?_
  exact Sy.retGM2 [] rfl (.inl (Sy.Res.cell (ty':=164) g4 1 (rrC (.slice A m cp) at_ 110) _ kZ J Bg J kZ J)) (.inl (show _=_ by kernel_rfl)) (λ_ h=>h.none) ⟨_,rfl,ByN.nil⟩
 have l2:=dN hb2
 rw [if_neg om] at hT
 subst hT
 have er:Ba b f.1 f.2.1 f.2.2=(f.1+f.2.2,0,(b.drop f.1).take f.2.2):=by
  unfold Ba
  rw [if_neg l1,if_neg om]
 refine sU<|Sy.skip<|sB<|sS (rrV (.slice A m cp) f.1 f.2.1) (qk 2 0 3 J J Bg)<|sp J<|sS (iZ f.2.2) (Quiet.pure (λw=>GB w _ _ _ f.2.2 om J J))<|Sy.callN kR 149 #[rrV (.slice A m cp) f.1 f.2.1,iZ f.2.2] kF _ (λw' hw=>Hg w' (.slice A m cp) b f.1 f.2.1 f.2.2 q2 om hl (hv0.at hw)) (λu M hM=>?_)
 rw [er] at hM
 obtain ⟨u,rfl,hu⟩:=hM
 have hub:=hu.byt
 obtain ⟨A2,n2,c2,rfl,_⟩:=hub
 refine sp J<|sp J<|sw 1 J (rrC (.slice A m cp) (f.1+f.2.2) 0) (wA J)<|sp J<|sG<|Sy.ret ?_
 exact Sy.retGM2 M J (.inl (Sy.Res.cell (ty':=164) g4 1 (rrC (.slice A m cp) (f.1+f.2.2) 0) _ kZ J Bg J kZ J)) (.inl (show _=_ by kernel_rfl)) (λ_ h=>h.less (List.sublist_append_right [(g2,164,rrC (.slice A m cp) at_ e),(g4,164,rrC (.slice A m cp) (f.1+f.2.2) 0),(g6,164,rrC (.slice A m cp) f.1 f.2.1)] M)) ⟨_,rfl,hu⟩
theorem CV (most:Nat) (hmo:most<1000000) (w0:Base) (gr:Nat) (sl:Value) (b:Byt) (at_ e:Nat) (R:AA) (hat:at_≤b.length) (he:e≤200) (hl:b.length≤70368744177664) (hv:BytR (rdW w0.world) sl b) (w:World) (hw:St w0 w (RB gr sl at_ e R)) :
  AL 130 #[ptr gr,.int .i64 (most:Int)] w (AQ w0 (Rfd (Bu most) (λx v N=>ByN x v N) gr sl b R at_ e)):=by
 obtain ⟨q1,q2,q3⟩:=OE b at_ e most hat he
 have hv0:=hv
 obtain ⟨A,m,cp,rfl,h2,h3,h4,h5⟩:=hv
 obtain ⟨f,hf⟩:=xE (gtN b at_ e most)
 rw [← hf] at q1 q2 q3
 refine Sy.enterT (args:=[ptr gr,.int .i64 (most:Int)]) hw Tryz.func130 J kL<|sC<|sP (.slice none 0 0)<|sA<|sp J<|sp J<|sP (pT gr 0)<|sS (rrV (.slice A m cp) at_ e) (qk 0 0 3 J J Bg)<|sp J<|Sy.callN kR 181 #[rrV (.slice A m cp) at_ e,.int .i64 (most:Int)] kF _ (λw' hw=>Je w' (.slice A m cp) b at_ e most hat he hmo hl (hv0.le (λg o u hu=>Aa (w0:=w0.inn) (R:=[]) hw (λ_ h=>by cases h) g o u (.inl hu)))) (λu M hM=>?_)
 rw [← hf] at hM
 obtain ⟨u,rfl,hu⟩:=hM
 have hub:=hu.byt
 obtain ⟨A2,n2,c2,rfl,k2,k3,k4,k5⟩:=hub
 refine sp J<|sp J<|sp J<|sM 164 (rrC (.slice none 0 0) 0 0) (λg5=>?_)
 refine Sy.movT (pre:=[(gr,166,rrC (.slice A m cp) at_ e)]) (T:=R++M)<|sw 1 J (rrC (.slice A m cp) f.1 f.2.1) (wA J)<|sp J<|sA<|sp J<|sS (rrV (.slice A m cp) f.1 f.2.1) (qk 1 0 3 J J Bg)<|sp J<|sP (pT gr 0)<|sw 0 J (rrC (.slice A m cp) f.1 f.2.1) (wA J)<|sA<|sp J<|sp J<|sG<|Sy.ret ?_
 exact Sy.retT1 (RB gr (.slice A m cp) f.1 f.2.1 (R++M)) J (.inl (show _=_ by kernel_rfl)) (λ_ h=>Mm h) ⟨_,_,_,M,q1,hu,q2,q3,rfl⟩
theorem Co (w0:Base) (gw:Nat) (bad:Bool) (s:Slc) (R:AA) (b:Byt) (v:Value) (x:Byt) (most:Nat) (hmo:most<1000000) (hb:BS s b) (hx:BytR (rdW w0.world) v x) (hl:b.length+(9+x.length)≤70368744170000) (w:World) (hw:St w0 w (WB gw bad s R)) :
  AL 122 #[ptr gw,v,.int .i64 (most:Int)] w (AQ w0 (Wd gw R (decide (x.length≤most)) (Af x.length++x) (9+x.length) bad b)):=by
 have hx0:=hx
 obtain ⟨A,n,cp,rfl,h2,h3,h4,h5⟩:=hx
 have hn9:=Cj x.length
 obtain ⟨ok,hok⟩:=xE (decide (x.length≤most))
 rw [← hok]
 rw [h2] at hok
 refine Sy.enterT (args:=[ptr gw,.slice A n cp,.int .i64 (most:Int)]) hw Tryz.func122 J kL<|sC<|sp J<|sp J<|sP (.int .i64 (n:Int))<|sp J<|sS (.bool ok) (qle J J J hok)<|Sy.callT (λw hw=>BF w0.inn gw bad ok s R w hw) (λu M hM=>?_)
 subst hM
 refine Sy.nil<|Sy.then_<|Sy.region<|sp J<|sp J<|Sy.callN kR 177 #[.slice A n cp] kF _ (λw' hw=>NP w' (.slice A n cp) x (hx0.le (λg o u hu=>Aa (w0:=w0.inn) (R:=[]) hw (λ_ h=>by cases h) g o u (.inl hu))) om) (λu M hM=>?_)
 refine Sy.permS (M:=WB gw (bad || !ok) s (R++M)) (List.Perm.of_eq (by simp only [List.append_assoc]))<|Sy.callT (λw hw=>CH w0.inn gw (bad || !ok) s (R++M) b u (Af x.length++x) hb (hM.byt.le (λg o v h=>.inr (Ac (λx hx=>List.mem_append_right _ hx) g o v h))) (by rw [List.length_append]; omega) w hw) (λv M2 hM2=>?_)
 obtain ⟨r,hr,rfl⟩:=hM2
 refine Sy.nil ?_
 have q:=(Wrote.must ok bad b).then_ (Wrote.raw (Af x.length++x) (bad || !ok) b (k:=9+x.length) (by rw [List.length_append]; omega))
 rw [Bool.and_true,List.nil_append,Nat.zero_add] at q
 exact Sy.retT0 J (WB gw (bad || !ok) r R) (λ_ h=>CQ h) (λ_=>⟨r,bad || !ok,_,q,hr,rfl⟩)
theorem HN (w0:Base) (gw:Nat) (bad:Bool) (s:Slc) (R:AA) (b:Byt) (x:Bool) (hb:BS s b) (hl:b.length+1≤70368744177664) (w:World) (hw:St w0 w (WB gw bad s R)) :
  AL 145 #[ptr gw,.bool x] w (AQ w0 (WRw gw bad b [trB x] R)):=by
 have fnd:∀ (g1:Nat) (u:UInt8),BytR (rdC w0.inn (R++[(g1,5,#[bv u])])) (.slice (pA g1) 1 1) [u]:=λg1 u=>⟨_,_,_,rfl,rfl,Nat.le_refl _,by decide,λ_=>⟨g1,0,rfl,λj y hj=>.inr ⟨5,#[bv u],List.mem_append_right _ (List.mem_singleton.2 J),by
  cases j with
  | zero=>cases hj; rfl
  | succ j=>cases hj⟩⟩⟩
 refine Sy.enterT (args:=[ptr gw,.bool x]) hw Tryz.func145 J kL<|sC<|sp J<|sG ?_
 cases x
 case' false =>
  refine sU<|Sy.region<|sp J<|Sy.make kR 5 #[bv (trB false)] (λg=>.slice (pA g) 1 1) kF (λg1=>?_)
  refine Sy.permS (M:=WB gw bad s (R++[(g1,5,#[bv (trB false)])])) (List.Perm.of_eq (by simp only [List.append_assoc]))<|Sy.callT (λw hw=>CH w0.inn gw bad s (R++[(g1,5,#[bv (trB false)])]) b (.slice (pA g1) 1 1) [trB false] hb (fnd g1 (trB false)) (by show _+1≤_; omega) w hw) (λv M hM=>?_)
  obtain ⟨r,hr,rfl⟩:=hM
  refine Sy.nil ?_
  exact Sy.retT0 J (WB gw bad r R) (λ_ h=>CQ h) (λ_=>⟨r,hr,rfl⟩)
 case' true =>
  refine sT<|Sy.region<|sp J<|Sy.make kR 5 #[bv (trB true)] (λg=>.slice (pA g) 1 1) kF (λg1=>?_)
  refine Sy.permS (M:=WB gw bad s (R++[(g1,5,#[bv (trB true)])])) (List.Perm.of_eq (by simp only [List.append_assoc]))<|Sy.callT (λw hw=>CH w0.inn gw bad s (R++[(g1,5,#[bv (trB true)])]) b (.slice (pA g1) 1 1) [trB true] hb (fnd g1 (trB true)) (by show _+1≤_; omega) w hw) (λv M hM=>?_)
  obtain ⟨r,hr,rfl⟩:=hM
  refine Sy.nil ?_
  exact Sy.retT0 J (WB gw bad r R) (λ_ h=>CQ h) (λ_=>⟨r,hr,rfl⟩)
end Wr
end
section
namespace Cu
open Go.RowKit Sy
section
variable {P:Program} {w0:Base} {n:Nat} {F:AK} {L:AA}
theorem Q0 {w1:World} {fn:Func} {r:ResultVar} {v:Value} {R:Value→AA→Prop} (i:Nat) (b:Nat×TypeId×Array Value) (hr:fn.results=#[r]) (h:Has P F L r v) (hb:L[i]? = some b) (hR:R v [b]):X (Base.of w1) n (bodyPost P fn (A0 w1 R)) F L .ret:=λa w ha hw=>by
 refine bodyPost_ret (v:=v) ?_ ha.1 ⟨v,[b],rfl,hR,hw.below,λg t cs hm=>?_,by simp⟩
 ·rcases Res.run h ha hw with ⟨t,rfl,e1⟩ | ⟨t,ty,ad,rfl,e1,e2⟩ <;> simp [results,Result.andThen, *]
 ·obtain rfl:=List.mem_singleton.1 hm
  exact hw.blk _ _ _ (List.mem_of_getElem? hb)
end
theorem MU {l:Ao} {k:Nat} {sp:List Value} (h:l.length=k):(((l.map bv++sp).toArray).toList.drop 0).take k=l.map bv:=by
 rw [List.drop_zero,List.take_append_of_le_length (by rw [List.length_map,h]; exact Nat.le_refl _),List.take_of_length_le (by rw [List.length_map,h]; exact Nat.le_refl _)]
theorem MW (l:Ao):∀ u∈l.map bv,u.oneCell'=true:=λu hu=>by
 obtain ⟨x,_,rfl⟩:=List.mem_map.1 hu
 rfl
theorem IE (w:World) (x:Nat) (hx:x<K4):Calls Tryz.prog 214 #[fv x] w (A0 w (λvq Mq=>∃ (g:Nat) (sp:List Value) (cap:Nat),vq=.slice (pA g) 32 cap∧Mq=[(g,5,((AV x).map bv++sp).toArray)])):=by
 refine (ID w x hx).mono ?_
 rintro e w' ⟨g,cap,rfl,ho,hl,hb⟩
 rcases ho.2 with ⟨h0,_⟩ | ⟨g',cap',cur,hv,hg,hk,_,q4,q5,q6⟩
 ·cases h0
 ·cases hv
  have hc:cur=((AV x).map bv++cur.toList.drop 32).toArray:=by
   rw [Nat.mul_one,AN] at q6
   rw [← q6,List.take_append_drop]
  refine ⟨_,[(g,5,cur)],rfl,⟨g,cur.toList.drop 32,cap,rfl,by rw [← hc]⟩,hb,λg1 t1 cs1 hm=>?_,by simp⟩
  simp only [List.mem_singleton,Prod.mk.injEq] at hm
  obtain ⟨rfl,rfl,rfl⟩:=hm
  exact ⟨by omega,hk⟩
theorem T8 (w:World) (F:AK) (o:Oper) (x y:Operand) (n:Nat) {yt:TypeId} (ho:o.op=.binOp .rem 22 x y yt) (hx:evF F x=.int .u64 (n:Int)) (hy:evF F y=.int .u64 2) (hn:n<18446744073709551616):(execOp (evF F) o).run Tryz.prog w=.ok (.value (.int .u64 ((n%2:Nat):Int))) w:=by
 have h:(binOp .rem 22 (.int .u64 (n:Int)) (.int .u64 2)).run Tryz.prog w=.ok (.int .u64 ((n%2:Nat):Int)) w:=by
  go_simp
  exact Int.tmod_eq_emod_of_nonneg om
 have h1:(eqGuard .rem 22 x y (.int .u64 (n:Int)) (.int .u64 2)).run Tryz.prog w=.ok () w:=by go_simp
 unfold execOp
 simp only [ho,hx,hy,Sem.run_bind,h1,h,Result.andThen_ok,Sem.run_pure]
theorem OL (w:World) (x y:Nat) (i:Bool) (hx:x<K4) (hy:y<K4) (h:dec x y i=none):AL 217 #[pv x y i] w (A0 w (λvq Mq=>∃ (g:Nat) (sp:List Value) (cap:Nat),vq=.slice (pA g) 33 cap∧(33≤cap∧cap≤9223372036854775807)∧Mq=[(g,5,((encS none).map bv++sp).toArray)])):=by
 refine Sy.enter (args:=[pv x y i]) Tryz.func217 J kL<|sC<|sM 57 (pcs x y i) (λg0=>?_)
 refine sP (.slice none 0 0)<|sA<|sS (pv x y i) (qk 0 0 9 J J Am)<|sS (pv 0 0 true) (qf (λw=>by have hrr:=Fg w x y i lK lK; rw [h] at hrr; exact hrr))<|sw 0 J (pcs 0 0 true) (wA J)<|sA<|Sy.make kR 5 (Zl 33).toArray (λg=>.slice (pA g) 33 33) kF (λg1=>?_)
 refine sP (.slice (pA g1) 33 33)<|sG<|Sy.seq<|sC<|sP (pT g0 8)<|sS (.bool true) (qc 0 8 J J uy4)<|sG<|sT<|sC<|sP (.slice (pA g1) 33 33)<|sP (.slice (pA g1) 33 33)<|sG<|Sy.ret<|Sy.then_ret ?_
 exact Q0 1 (g1,5,(Zl 33).toArray) rfl (v:=.slice (pA g1) 33 33) (.inl (show _=_ by kernel_rfl)) kR ⟨g1,[],33,rfl,⟨by decide,by decide⟩,by kernel_rfl⟩
theorem OM (w:World) (x y:Nat) (i:Bool) (hx:x<K4) (hy:y<K4) (u v:Fp) (h:dec x y i=some (u,v)) (hv:v.val%2=0):AL 217 #[pv x y i] w (A0 w (λvq Mq=>∃ (g:Nat) (sp:List Value) (cap:Nat),vq=.slice (pA g) 33 cap∧(33≤cap∧cap≤9223372036854775807)∧Mq=[(g,5,((encS (some (u,v))).map bv++sp).toArray)])):=by
 have hv2:v.val%18446744073709551616%2=0:=om
 refine Sy.enter (args:=[pv x y i]) Tryz.func217 J kL<|sC<|sM 57 (pcs x y i) (λg0=>?_)
 refine sP (.slice none 0 0)<|sA<|sS (pv x y i) (qk 0 0 9 J J Am)<|sS (pv u.val v.val false) (qf (λw=>by have hrr:=Fg w x y i lK lK; rw [h] at hrr; exact hrr))<|sw 0 J (pcs u.val v.val false) (wA J)<|sA<|Sy.make kR 5 (Zl 33).toArray (λg=>.slice (pA g) 33 33) kF (λg1=>?_)
 refine sP (.slice (pA g1) 33 33)<|sG<|Sy.seq<|sC<|sP (pT g0 8)<|sS (.bool false) (qc 0 8 J J uy4)<|sG<|sU<|Sy.skip<|sB<|sP (pT g0 4)<|sP (pT g0 4)<|sS (qv (v.val%18446744073709551616)) (qc 0 4 J J CF)<|sS (uZ 0) (Quiet.pure (λw=>(T8 w _ _ _ _ (v.val%18446744073709551616) rfl J J (Nat.mod_lt _ dZ)).trans (by rw [hv2]; rfl)))<|sP (uZ 2)<|sP (bv 2)<|Sy.make kR 5 #[bv 2] (λg=>.slice (pA g) 1 1) kF (λg2=>?_)
 refine sP (.slice (pA g2) 1 1)<|sA<|sP (.slice (pA g2) 1 1)<|sP (pT g0 0)<|sS (fv u.val) (qk 0 0 4 J J Ae)<|sS (fv u.val) (qf (λw=>refOf_any w u.val lK))<|Sy.callN kR 214 #[fv u.val] kF (λvq Mq=>∃ (g:Nat) (sp:List Value) (cap:Nat),vq=.slice (pA g) 32 cap∧Mq=[(g,5,((AV u.val).map bv++sp).toArray)]) (λw _=>IE w u.val (lt4 _)) (λvq Mq hR0=>?_)
 obtain ⟨g9,sp9,cp9,rfl,rfl⟩:=hR0
 refine Sy.append kR 27 5 _ _ Ay info_u8 J J J J _ _ J 2 g2 1 1 #[bv 2] [bv 2] kR kR kR J kR dZ 3 g9 0 32 cp9 5 ((AV u.val).map bv++sp9).toArray ((AV u.val).map bv) kR kR (MU (AN _)) (by rw [List.length_map]; exact (AN _)) (MW _) dZ (λq1 c1 s1 e1 m1=>?_)
 refine sP (.slice (pA q1) (1+32) c1)<|sG<|Sy.ret ?_
 exact Q0 2 (q1,5,([bv 2]++((AV u.val).map bv++s1)).toArray) rfl (v:=.slice (pA q1) (1+32) c1) (.inl (show _=_ by kernel_rfl)) kR ⟨q1,s1,c1,rfl,⟨by omega,by simp only [maxLen] at m1; omega⟩,by rw [show encS (some (u,v))=2::AV u.val from by show (if v.val%2=1 then (3:UInt8) else 2)::AV u.val=_; rw [if_neg om]]; rfl⟩
theorem QG (w:World) (x y:Nat) (i:Bool) (hx:x<K4) (hy:y<K4) (u v:Fp) (h:dec x y i=some (u,v)) (hv:v.val%2=1):AL 217 #[pv x y i] w (A0 w (λvq Mq=>∃ (g:Nat) (sp:List Value) (cap:Nat),vq=.slice (pA g) 33 cap∧(33≤cap∧cap≤9223372036854775807)∧Mq=[(g,5,((encS (some (u,v))).map bv++sp).toArray)])):=by
 have hv2:v.val%18446744073709551616%2=1:=om
 refine Sy.enter (args:=[pv x y i]) Tryz.func217 J kL<|sC<|sM 57 (pcs x y i) (λg0=>?_)
 refine sP (.slice none 0 0)<|sA<|sS (pv x y i) (qk 0 0 9 J J Am)<|sS (pv u.val v.val false) (qf (λw=>by have hrr:=Fg w x y i lK lK; rw [h] at hrr; exact hrr))<|sw 0 J (pcs u.val v.val false) (wA J)<|sA<|Sy.make kR 5 (Zl 33).toArray (λg=>.slice (pA g) 33 33) kF (λg1=>?_)
 refine sP (.slice (pA g1) 33 33)<|sG<|Sy.seq<|sC<|sP (pT g0 8)<|sS (.bool false) (qc 0 8 J J uy4)<|sG<|sU<|Sy.skip<|sB<|sP (pT g0 4)<|sP (pT g0 4)<|sS (qv (v.val%18446744073709551616)) (qc 0 4 J J CF)<|sS (uZ 1) (Quiet.pure (λw=>(T8 w _ _ _ _ (v.val%18446744073709551616) rfl J J (Nat.mod_lt _ dZ)).trans (by rw [hv2]; rfl)))<|sP (uZ 3)<|sP (bv 3)<|Sy.make kR 5 #[bv 3] (λg=>.slice (pA g) 1 1) kF (λg2=>?_)
 refine sP (.slice (pA g2) 1 1)<|sA<|sP (.slice (pA g2) 1 1)<|sP (pT g0 0)<|sS (fv u.val) (qk 0 0 4 J J Ae)<|sS (fv u.val) (qf (λw=>refOf_any w u.val lK))<|Sy.callN kR 214 #[fv u.val] kF (λvq Mq=>∃ (g:Nat) (sp:List Value) (cap:Nat),vq=.slice (pA g) 32 cap∧Mq=[(g,5,((AV u.val).map bv++sp).toArray)]) (λw _=>IE w u.val (lt4 _)) (λvq Mq hR0=>?_)
 obtain ⟨g9,sp9,cp9,rfl,rfl⟩:=hR0
 refine Sy.append kR 27 5 _ _ Ay info_u8 J J J J _ _ J 2 g2 1 1 #[bv 3] [bv 3] kR kR kR J kR dZ 3 g9 0 32 cp9 5 ((AV u.val).map bv++sp9).toArray ((AV u.val).map bv) kR kR (MU (AN _)) (by rw [List.length_map]; exact (AN _)) (MW _) dZ (λq1 c1 s1 e1 m1=>?_)
 refine sP (.slice (pA q1) (1+32) c1)<|sG<|Sy.ret ?_
 exact Q0 2 (q1,5,([bv 3]++((AV u.val).map bv++s1)).toArray) rfl (v:=.slice (pA q1) (1+32) c1) (.inl (show _=_ by kernel_rfl)) kR ⟨q1,s1,c1,rfl,⟨by omega,by simp only [maxLen] at m1; omega⟩,by rw [show encS (some (u,v))=3::AV u.val from by show (if v.val%2=1 then (3:UInt8) else 2)::AV u.val=_; rw [if_pos om]]; rfl⟩
theorem encW_any (w:World) (x y:Nat) (i:Bool) (hx:x<K4) (hy:y<K4):Calls Tryz.prog 217 #[pv x y i] w (A0 w (λvq Mq=>∃ (g:Nat) (sp:List Value) (cap:Nat),vq=.slice (pA g) 33 cap∧(33≤cap∧cap≤9223372036854775807)∧Mq=[(g,5,((encS (dec x y i)).map bv++sp).toArray)])):=by
 rcases h:dec x y i with _ | ⟨u,v⟩
 ·exact OL w x y i hx hy h
 ·rcases Nat.mod_two_eq_zero_or_one v.val with hv | hv
  ·exact OM w x y i hx hy u v h hv
  ·exact QG w x y i hx hy u v h hv
theorem IB (w:World) (x y:Nat) (i:Bool) (hx:x<K4) (hy:y<K4):Calls Tryz.prog 217 #[pv x y i] w (A0 w (λvq Mq=>∃ (g:Nat) (sp:List Value) (cap:Nat),vq=.slice (pA g) 33 cap∧Mq=[(g,5,((encS (dec x y i)).map bv++sp).toArray)])):=by
 refine (encW_any w x y i hx hy).mono ?_
 rintro e w' ⟨v,M,h1,⟨g,sp,cap,h2,_,h3⟩,h4⟩
 exact ⟨v,M,h1,⟨g,sp,cap,h2,h3⟩,h4⟩
end Cu
end
section
section
open Go.RowKit Go.Lib
theorem Dj (w:World) (g cap:Nat) (l:Ao) (hl:l.length=32) (hg:g<w.heap.size) (hcell:∀ j u,l[j]? = some u→w.cell? ⟨g,j,none⟩=some (bv u)) (_:32≤cap) (_:cap≤9223372036854775807):Calls Tryz.prog 218 #[.slice (pA g) 32 cap] w λe w'=>e=.returned (fv (Ag l))∧Below w.heap.size w w':=by
 have HL:=Lib.hid hl
 have HG:=Lib.hid hcell
 clear hl hcell
 go_enter Tryz.func218,Tryz.ntmps218
 go_wp2_with fail
 go_loopw [4] (λi wr=>∃ k y0 y1 y2 y3:Nat,k≤32∧i=.int .i64 (k:Int)∧Hid (y0=wdB l k 0∧y1=wdB l k 1∧y2=wdB l k 2∧y3=wdB l k 3)∧Below w.heap.size w wr∧Blk wr (w.heap.size+1) 359 #[.int .u64 (y3:Int),.int .u64 (y2:Int),.int .u64 (y1:Int),.int .u64 (y0:Int)]∧Blk wr w.heap.size 359 #[.int .u64 0,.int .u64 0,.int .u64 0,.int .u64 0]) (λi _=>32 - (intOf i).toNat)
 case atStart=>exact ⟨0,0,0,0,0,by omega,rfl,Lib.hid ⟨(Be l 0).symm,(Be l 1).symm,(Be l 2).symm,(Be l 3).symm⟩,AY w _ _,AZ w _ _ _,(Blk.new w _ _).alloc _⟩
 case round =>
  obtain ⟨k,y0,y1,y2,y3,hk,rfl,HY,hb,hP,hR⟩:=hrel
  have q3:wr.cell? ⟨w.heap.size+1,0,none⟩=some (.int .u64 (y3:Int)):=hP.cell 0
  have q2:wr.cell? ⟨w.heap.size+1,1,none⟩=some (.int .u64 (y2:Int)):=hP.cell 1
  have q1:wr.cell? ⟨w.heap.size+1,2,none⟩=some (.int .u64 (y1:Int)):=hP.cell 2
  have q0:wr.cell? ⟨w.heap.size+1,3,none⟩=some (.int .u64 (y0:Int)):=hP.cell 3
  have ff:∀ j,wr.frozen? ⟨w.heap.size+1,j,none⟩=false:=λj=>hP.frozen j
  by_cases hlt:k<32
  ·obtain ⟨c,hc⟩:∃ c,l[k]? = some c:=⟨l[k]'(by rw [HL.out]; exact hlt),List.getElem?_eq_getElem _⟩
   have HC:=Lib.hid hc
   obtain ⟨m,hm⟩:=xE c.toNat
   have hm8:m<256:=by rw [hm]; exact c.toNat_lt
   have hI:wr.cell? ⟨g,k,none⟩=some (.int .u8 (m:Int)):=by
    rw [hm]
    exact (hb.cell (p:=⟨g,k,none⟩) hg).trans (HG.out k c hc)
   have HM:=Lib.hid hm
   have HR:=Lib.hid (And.intro hb (And.intro hP hR))
   clear hb hP hR hc hk hm
   rcases (C7 k) with rfl|rfl|rfl|rfl|rfl|rfl|rfl|rfl|rfl|rfl|rfl|rfl|rfl|rfl|rfl|rfl|rfl|rfl|rfl|rfl|rfl|rfl|rfl|rfl|rfl|rfl|rfl|rfl|rfl|rfl|rfl|rfl
   all_goals
    first
    | ((have hy:y0<72057594037927936:=by rw [HY.out.1]; exact Cg l _ 0 dZ); go_wp2; go_region; all_goals go_wp2; all_goals (refine ⟨⟨_,y0*256+m,y1,y2,y3,by decide,rfl,Lib.hid ⟨by rw [HY.out.1,HM.out]; exact (Bf l _ 0 c HC.out dZ).symm,by rw [HY.out.2.1]; exact (AR l _ 1 dZ).symm,by rw [HY.out.2.2.1]; exact (AR l _ 2 dZ).symm,by rw [HY.out.2.2.2]; exact (AR l _ 3 dZ).symm⟩,(HR.out.1.setCell (by show w.heap.size≤w.heap.size+1; omega) _).drew,Blk.drew (Blk.eq_ (HR.out.2.1.set_ 3 _) (by rw [show ((y0*256+m:Nat):Int)=(y0:Int)*256+(m:Int) by omega]; rfl)),Blk.drew (HR.out.2.2.far (by show w.heap.size≠w.heap.size+1; omega) _)⟩,by simp [intOf]⟩))
    | ((have hy:y1<72057594037927936:=by rw [HY.out.2.1]; exact Cg l _ 1 dZ); go_wp2; go_region; all_goals go_wp2; all_goals (refine ⟨⟨_,y0,y1*256+m,y2,y3,by decide,rfl,Lib.hid ⟨by rw [HY.out.1]; exact (AR l _ 0 dZ).symm,by rw [HY.out.2.1,HM.out]; exact (Bf l _ 1 c HC.out dZ).symm,by rw [HY.out.2.2.1]; exact (AR l _ 2 dZ).symm,by rw [HY.out.2.2.2]; exact (AR l _ 3 dZ).symm⟩,(HR.out.1.setCell (by show w.heap.size≤w.heap.size+1; omega) _).drew,Blk.drew (Blk.eq_ (HR.out.2.1.set_ 2 _) (by rw [show ((y1*256+m:Nat):Int)=(y1:Int)*256+(m:Int) by omega]; rfl)),Blk.drew (HR.out.2.2.far (by show w.heap.size≠w.heap.size+1; omega) _)⟩,by simp [intOf]⟩))
    | ((have hy:y2<72057594037927936:=by rw [HY.out.2.2.1]; exact Cg l _ 2 dZ); go_wp2; go_region; all_goals go_wp2; all_goals (refine ⟨⟨_,y0,y1,y2*256+m,y3,by decide,rfl,Lib.hid ⟨by rw [HY.out.1]; exact (AR l _ 0 dZ).symm,by rw [HY.out.2.1]; exact (AR l _ 1 dZ).symm,by rw [HY.out.2.2.1,HM.out]; exact (Bf l _ 2 c HC.out dZ).symm,by rw [HY.out.2.2.2]; exact (AR l _ 3 dZ).symm⟩,(HR.out.1.setCell (by show w.heap.size≤w.heap.size+1; omega) _).drew,Blk.drew (Blk.eq_ (HR.out.2.1.set_ 1 _) (by rw [show ((y2*256+m:Nat):Int)=(y2:Int)*256+(m:Int) by omega]; rfl)),Blk.drew (HR.out.2.2.far (by show w.heap.size≠w.heap.size+1; omega) _)⟩,by simp [intOf]⟩))
    | ((have hy:y3<72057594037927936:=by rw [HY.out.2.2.2]; exact Cg l _ 3 dZ); go_wp2; go_region; all_goals go_wp2; all_goals (refine ⟨⟨_,y0,y1,y2,y3*256+m,by decide,rfl,Lib.hid ⟨by rw [HY.out.1]; exact (AR l _ 0 dZ).symm,by rw [HY.out.2.1]; exact (AR l _ 1 dZ).symm,by rw [HY.out.2.2.1]; exact (AR l _ 2 dZ).symm,by rw [HY.out.2.2.2,HM.out]; exact (Bf l _ 3 c HC.out dZ).symm⟩,(HR.out.1.setCell (by show w.heap.size≤w.heap.size+1; omega) _).drew,Blk.drew (Blk.eq_ (HR.out.2.1.set_ 0 _) (by rw [show ((y3*256+m:Nat):Int)=(y3:Int)*256+(m:Int) by omega]; rfl)),Blk.drew (HR.out.2.2.far (by show w.heap.size≠w.heap.size+1; omega) _)⟩,by simp [intOf]⟩))
  ·have p1:¬ (k:Int)<32:=om
   obtain rfl:k=32:=om
   have b0:y0<18446744073709551616:=by rw [HY.out.1]; exact B8 l _ _
   have b1:y1<18446744073709551616:=by rw [HY.out.2.1]; exact B8 l _ _
   have b2:y2<18446744073709551616:=by rw [HY.out.2.2.1]; exact B8 l _ _
   have b3:y3<18446744073709551616:=by rw [HY.out.2.2.2]; exact B8 l _ _
   obtain ⟨z,hz⟩:=xE (y3+18446744073709551616*y2+340282366920938463463374607431768211456*y1+6277101735386680763835789423207666416102355444464034512896*y0)
   have fz:=Cs y3 y2 y1 y0 b3 b2 b1 b0
   rw [← hz] at fz
   have hzv:Ag l=z:=by rw [Gt l HL.out,hz,HY.out.1,HY.out.2.1,HY.out.2.2.1,HY.out.2.2.2]
   have HZ:=Lib.hid hzv
   have FZ:=Lib.hid fz.symm
   have HP:=Lib.hid hP
   have HR:=Lib.hid hR
   clear HY b0 b1 b2 b3 hz fz hzv q0 q1 q2 q3 ff hP hR
   go_wp2_with (first | ((with_reducible refine AE (d:=some 31) ?_); refine AC J _ _ J (w.heap.size+1) rfl z _ _ _ HP.out FZ.out AU J kZ ?_) | ((with_reducible refine AF ?_); refine AB J _ _ _ J w.heap.size (fcs z) J J _ _ HR.out kZ (by rfl) (AM _) ?_; intro vz hLz hqz hKz))
   exact bodyPost_ret (results_cell_row J _ _ w.heap.size _ _ (0,0) _ J hLz AU J kZ) rfl ⟨by rw [HZ.out]; rfl,hb.trans (hqz _ om)⟩
end
end
end Go.Proofs.YtdbcombmmnihbaaGreat
