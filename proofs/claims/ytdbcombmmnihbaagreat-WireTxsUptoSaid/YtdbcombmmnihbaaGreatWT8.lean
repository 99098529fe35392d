/-
  Texts of ours, put together: WirGC, WirGD, WirGE, WirGF, WirGI, WirGG, WirGH.
-/
import Derived.Test.YtdbcombmmnihbaaGreatWT7
set_option linter.unusedVariables false
set_option linter.unusedSimpArgs false
set_option maxRecDepth 100000
set_option maxHeartbeats 40000000
namespace Go.Proofs.YtdbcombmmnihbaaGreat
section
namespace Wr
open Go.RowKit Sy
def J8 (_:Rdr) (cs:List Value) (x:Byt×Nat):Prop:=cs=x.1.map bv++[.int .u32 (x.2:Int)]∧x.1.length=32∧x.2<4294967296
def Mu (x:Byt×Nat):Byt:=x.1++nb 4 x.2
def Q6:Ps (Byt×Nat):=AJ (A_ 32) λp=>AJ (Bj 4) λn=>BO (p,n)
theorem LI:DK 105 33 J8 (λ_=>true) Mu (λ_=>36):=λw0 gc gw gx f bad s R b cs x hx _ hc hb hl w hw=>by
 obtain ⟨rfl,h1,h2⟩:=hx
 have e1:(x.1.map bv).length=32:=by rw [List.length_map,h1]
 have c0:XAt (rdC w0 R) gx f (x.1.map bv++[.int .u32 (x.2:Int)]):=hc
 have c1:XAt (rdC w0 R) gx (f+32) [.int .u32 (x.2:Int)]:=c0.right e1
 dsimp only at hl
 refine Sy.enterT (args:=[ptr gc,pT gx f]) hw Tryz.func105 J kL<|sC<|sp J<|sp J<|sp J<|sP (pT gx f)<|Sy.callT (λw hw=>ED w0.inn gc gw gx f bad s R b x.1 h1 c0.left hb om w hw) (λu M hM=>?_)
 obtain ⟨s1,bad1,b1,q1,p1,rfl⟩:=hM
 have l1:b1.length≤b.length+32:=q1.len
 refine Sy.nil<|Sy.then_<|Sy.region<|sp J<|sp J<|sp J<|sP (pT gx (f+32))<|Sy.callT (λw hw=>K3 w0.inn gc gw gx (f+32) bad1 s1 R b1 x.2 h2 c1.one p1 om w hw) (λu M hM=>?_)
 obtain ⟨s2,bad2,b2,q2,p2,rfl⟩:=hM
 have l2:b2.length≤b1.length+4:=q2.len
 refine Sy.nil ?_
 have q:=q1.then_ q2
 simp only [Bool.true_and] at q
 exact Sy.retT0 J (CWS gc gw bad2 s2 R) (λ_ h=>h) (λ_=>⟨s2,bad2,b2,q,p2,rfl⟩)
theorem LJ:B4 105 33 (Z32++([Value.int .u32 0])) J8 Q6:=λw0 gc gr gx f tx A Z sl s R S hS hA he hl hv w hw=>by
 refine Sy.enterT (args:=[ptr gc,pT gx f]) hw Tryz.func105 J kL<|sC<|sp J<|sp J<|sp J<|sP (pT gx f)<|Sy.callT (λw hw=>EE w0.inn gc gr gx f tx A ([Value.int .u32 0]++Z) sl s R S hS hA he hl hv w (by simpa only [List.append_assoc] using hw)) (λu M hM=>?_)
 obtain ⟨x1,s1,sl1,cs1,N1,a1,n1,o1,⟨rfl,r1⟩,e1,h1,y1,rfl⟩:=hM
 have g1:s1.rest.length≤s.rest.length:=h1
 have A1:(A++(x1.map bv)).length=f+32:=by rw [List.length_append,hA,n1]
 refine Sy.nil<|Sy.then_<|Sy.region<|sp J<|sp J<|sp J<|sP (pT gx (f+32))<|Sy.callT (λw hw=>K5 w0.inn gc gr gx (f+32) tx (A++(x1.map bv)) Z sl1 s1 (R++N1) S (λb h=>List.mem_append_left _ (hS b h)) A1 e1 (Nat.le_trans g1 hl) y1 w (by have e:A++(x1.map bv)++([Value.int .u32 0]++(Z))=A++(x1.map bv++([Value.int .u32 0]++(Z))):=List.append_assoc ..; rw [e]; exact hw)) (λu M hM=>?_)
 obtain ⟨x2,s2,sl2,cs2,N2,a2,n2,o2,⟨rfl,r2⟩,e2,h2,y2,rfl⟩:=hM
 have g2:s2.rest.length≤s.rest.length:=Nat.le_trans h2 g1
 have A2:(A++(x1.map bv)++[Value.int .u32 (x2:Int)]).length=f+33:=by rw [List.length_append,A1,n2]
 refine Sy.nil ?_
 have hAf:After Q6 s (x1,x2) s2:=a1.bind (a2.bind (After.ret _ _))
 have hLn:(x1.map bv++([Value.int .u32 (x2:Int)])).length=33:=by simp only [List.length_append,n1]; rfl
 have hOn:∀ u∈(x1.map bv++([Value.int .u32 (x2:Int)])),u.oneCell'=true:=AG o1 (o2)
 have hRp:J8 (rdB (N1++(N2))) (x1.map bv++([Value.int .u32 (x2:Int)])) (x1,x2):=⟨rfl,r1,r2⟩
 exact Sy.retT0 J (CRS gc gr gx tx (A++((x1.map bv++([Value.int .u32 (x2:Int)]))++Z)) sl2 s2.e (R++(N1++(N2)))) (λ_ h=>by simpa only [List.append_assoc,List.cons_append,List.nil_append] using h) (λ_=>⟨_,s2,sl2,_,_,hAf,hLn,hOn,hRp,e2,g2,y2,rfl⟩)
theorem UD:DK 108 37 D3 Hr F9 EZ:=λw0 gc gw gx f bad s R b cs x hx _ hc hb hl w hw=>by
 obtain ⟨hd,tx,pl,mn,pa,sc⟩:=x
 obtain ⟨vt,vp,vs,rfl,h1,h2,h3,h4,h5,h6⟩:=hx
 dsimp only at h1 h2 h3 h4 h5 h6
 unfold EZ at hl
 dsimp only at hl
 have e1:(hd.map bv).length=32:=by rw [List.length_map,h1]
 have c0:XAt (rdC w0 R) gx f (hd.map bv++([vt]++([.int .u32 (pl:Int)]++([.int .u32 (mn:Int)]++([vp]++[vs]))))):=hc
 have c1:XAt (rdC w0 R) gx (f+32) ([vt]++([.int .u32 (pl:Int)]++([.int .u32 (mn:Int)]++([vp]++[vs])))):=c0.right e1
 have c2:XAt (rdC w0 R) gx (f+33) ([.int .u32 (pl:Int)]++([.int .u32 (mn:Int)]++([vp]++[vs]))):=c1.right (n:=1) rfl
 have c3:XAt (rdC w0 R) gx (f+34) ([.int .u32 (mn:Int)]++([vp]++[vs])):=c2.right (n:=1) rfl
 have c4:XAt (rdC w0 R) gx (f+35) ([vp]++[vs]):=c3.right (n:=1) rfl
 have c5:XAt (rdC w0 R) gx (f+36) [vs]:=c4.right (n:=1) rfl
 refine Sy.enterT (args:=[ptr gc,pT gx f]) hw Tryz.func108 J kL<|sC<|sp J<|sp J<|sp J<|sP (pT gx f)<|Sy.callT (λw hw=>ED w0.inn gc gw gx f bad s R b hd h1 c0.left hb om w hw) (λu M hM=>?_)
 obtain ⟨s1,bad1,b1,q1,p1,rfl⟩:=hM
 have l1:b1.length≤b.length+32:=q1.len
 refine sA<|sp J<|sp J<|sp J<|sP (pT gx (f+32))<|Sy.callT (λw hw=>Ee w0.inn gc gw gx (f+32) bad1 s1 R b1 tx vt 1024 dZ h2 c1.one p1 om w hw) (λu M hM=>?_)
 obtain ⟨s2,bad2,b2,q2,p2,rfl⟩:=hM
 have l2:b2.length≤b1.length+(9+tx.length):=q2.len
 refine sA<|sp J<|sp J<|sp J<|sP (pT gx (f+33))<|Sy.callT (λw hw=>K3 w0.inn gc gw gx (f+33) bad2 s2 R b2 pl h3 c2.one p2 om w hw) (λu M hM=>?_)
 obtain ⟨s3,bad3,b3,q3,p3,rfl⟩:=hM
 have l3:b3.length≤b2.length+4:=q3.len
 refine sA<|sp J<|sp J<|sp J<|sP (pT gx (f+34))<|Sy.callT (λw hw=>K3 w0.inn gc gw gx (f+34) bad3 s3 R b3 mn h4 c3.one p3 om w hw) (λu M hM=>?_)
 obtain ⟨s4,bad4,b4,q4,p4,rfl⟩:=hM
 have l4:b4.length≤b3.length+4:=q4.len
 refine sA<|sp J<|sp J<|sp J<|sP (pT gx (f+35))<|Sy.callT (λw hw=>Ld (rep:=DC) Eo OP w0.inn gc gw gx (f+35) 32 dZ bad4 s4 R b4 vp pa h5 c4.one p4 om w hw) (λu M hM=>?_)
 obtain ⟨s5,bad5,b5,q5,p5,rfl⟩:=hM
 have l5:b5.length≤b4.length+(9+(pa.map λ_=>32).sum):=q5.len
 refine Sy.nil<|Sy.then_<|Sy.region<|sp J<|sp J<|sp J<|sP (pT gx (f+36))<|Sy.callT (λw hw=>Ee w0.inn gc gw gx (f+36) bad5 s5 R b5 sc vs 256 dZ h6 c5.one p5 om w hw) (λu M hM=>?_)
 obtain ⟨s6,bad6,b6,q6,p6,rfl⟩:=hM
 have l6:b6.length≤b5.length+(9+sc.length):=q6.len
 refine Sy.nil ?_
 have q:=q1.then_ (q2.then_ (q3.then_ (q4.then_ (q5.then_ q6))))
 simp only [Bool.true_and,Eu,Bool.and_true] at q
 exact Sy.retT0 J (CWS gc gw bad6 s6 R) (λ_ h=>h) (λ_=>⟨s6,bad6,b6,q,p6,rfl⟩)
theorem UE:B4 108 37 (Z32++([Value.slice none 0 0]++([Value.int .u32 0]++([Value.int .u32 0]++([Value.slice none 0 0]++([Value.slice none 0 0])))))) D3 JI:=λw0 gc gr gx f tx A Z sl s R S hS hA he hl hv w hw=>by
 refine Sy.enterT (args:=[ptr gc,pT gx f]) hw Tryz.func108 J kL<|sC<|sp J<|sp J<|sp J<|sP (pT gx f)<|Sy.callT (λw hw=>EE w0.inn gc gr gx f tx A ([Value.slice none 0 0]++([Value.int .u32 0]++([Value.int .u32 0]++([Value.slice none 0 0]++([Value.slice none 0 0]++Z))))) sl s R S hS hA he hl hv w (by simpa only [List.append_assoc] using hw)) (λu M hM=>?_)
 obtain ⟨x1,s1,sl1,cs1,N1,a1,n1,o1,⟨rfl,r1⟩,e1,h1,y1,rfl⟩:=hM
 have g1:s1.rest.length≤s.rest.length:=h1
 have A1:(A++(x1.map bv)).length=f+32:=by rw [List.length_append,hA,n1]
 refine sA<|sp J<|sp J<|sp J<|sP (pT gx (f+32))<|Sy.callT (λw hw=>Ef 1024 dZ w0.inn gc gr gx (f+32) tx (A++(x1.map bv)) ([Value.int .u32 0]++([Value.int .u32 0]++([Value.slice none 0 0]++([Value.slice none 0 0]++Z)))) sl1 s1 (R++N1) S (λb h=>List.mem_append_left _ (hS b h)) A1 e1 (Nat.le_trans g1 hl) y1 w (by have e:A++(x1.map bv)++([Value.slice none 0 0]++([Value.int .u32 0]++([Value.int .u32 0]++([Value.slice none 0 0]++([Value.slice none 0 0]++Z)))))=A++(x1.map bv++([Value.slice none 0 0]++([Value.int .u32 0]++([Value.int .u32 0]++([Value.slice none 0 0]++([Value.slice none 0 0]++Z)))))):=List.append_assoc ..; rw [e]; exact hw)) (λu M hM=>?_)
 obtain ⟨x2,s2,sl2,cs2,N2,a2,n2,o2,⟨v2,rfl,r2⟩,e2,h2,y2,rfl⟩:=hM
 have g2:s2.rest.length≤s.rest.length:=Nat.le_trans h2 g1
 have A2:(A++(x1.map bv)++[v2]).length=f+33:=by rw [List.length_append,A1,n2]
 refine sA<|sp J<|sp J<|sp J<|sP (pT gx (f+33))<|Sy.callT (λw hw=>K5 w0.inn gc gr gx (f+33) tx (A++(x1.map bv)++[v2]) ([Value.int .u32 0]++([Value.slice none 0 0]++([Value.slice none 0 0]++Z))) sl2 s2 (R++N1++N2) S (λb h=>List.mem_append_left _ (List.mem_append_left _ (hS b h))) A2 e2 (Nat.le_trans g2 hl) y2 w (by have e:A++(x1.map bv)++[v2]++([Value.int .u32 0]++([Value.int .u32 0]++([Value.slice none 0 0]++([Value.slice none 0 0]++Z))))=A++(x1.map bv)++([v2]++([Value.int .u32 0]++([Value.int .u32 0]++([Value.slice none 0 0]++([Value.slice none 0 0]++Z))))):=List.append_assoc ..; rw [e]; exact hw)) (λu M hM=>?_)
 obtain ⟨x3,s3,sl3,cs3,N3,a3,n3,o3,⟨rfl,r3⟩,e3,h3,y3,rfl⟩:=hM
 have g3:s3.rest.length≤s.rest.length:=Nat.le_trans h3 g2
 have A3:(A++(x1.map bv)++[v2]++[Value.int .u32 (x3:Int)]).length=f+34:=by rw [List.length_append,A2,n3]
 refine sA<|sp J<|sp J<|sp J<|sP (pT gx (f+34))<|Sy.callT (λw hw=>K5 w0.inn gc gr gx (f+34) tx (A++(x1.map bv)++[v2]++[Value.int .u32 (x3:Int)]) ([Value.slice none 0 0]++([Value.slice none 0 0]++Z)) sl3 s3 (R++N1++N2++N3) S (λb h=>List.mem_append_left _ (List.mem_append_left _ (List.mem_append_left _ (hS b h)))) A3 e3 (Nat.le_trans g3 hl) y3 w (by have e:A++(x1.map bv)++[v2]++[Value.int .u32 (x3:Int)]++([Value.int .u32 0]++([Value.slice none 0 0]++([Value.slice none 0 0]++Z)))=A++(x1.map bv)++[v2]++([Value.int .u32 (x3:Int)]++([Value.int .u32 0]++([Value.slice none 0 0]++([Value.slice none 0 0]++Z)))):=List.append_assoc ..; rw [e]; exact hw)) (λu M hM=>?_)
 obtain ⟨x4,s4,sl4,cs4,N4,a4,n4,o4,⟨rfl,r4⟩,e4,h4,y4,rfl⟩:=hM
 have g4:s4.rest.length≤s.rest.length:=Nat.le_trans h4 g3
 have A4:(A++(x1.map bv)++[v2]++[Value.int .u32 (x3:Int)]++[Value.int .u32 (x4:Int)]).length=f+35:=by rw [List.length_append,A3,n4]
 refine sA<|sp J<|sp J<|sp J<|sP (pT gx (f+35))<|Sy.callT (λw hw=>Lh (rep:=DC) (p:=A_ 32) Eo EE w0.inn gc gr gx (f+35) 32 dZ tx (A++(x1.map bv)++[v2]++[Value.int .u32 (x3:Int)]++[Value.int .u32 (x4:Int)]) ([Value.slice none 0 0]++Z) sl4 s4 (R++N1++N2++N3++N4) S (λb h=>List.mem_append_left _ (List.mem_append_left _ (List.mem_append_left _ (List.mem_append_left _ (hS b h))))) A4 e4 (Nat.le_trans g4 hl) y4 w (by have e:A++(x1.map bv)++[v2]++[Value.int .u32 (x3:Int)]++[Value.int .u32 (x4:Int)]++([Value.slice none 0 0]++([Value.slice none 0 0]++Z))=A++(x1.map bv)++[v2]++[Value.int .u32 (x3:Int)]++([Value.int .u32 (x4:Int)]++([Value.slice none 0 0]++([Value.slice none 0 0]++Z))):=List.append_assoc ..; rw [e]; exact hw)) (λu M hM=>?_)
 obtain ⟨x5,s5,sl5,cs5,N5,a5,n5,o5,⟨v5,rfl,r5⟩,e5,h5,y5,rfl⟩:=hM
 have g5:s5.rest.length≤s.rest.length:=Nat.le_trans h5 g4
 have A5:(A++(x1.map bv)++[v2]++[Value.int .u32 (x3:Int)]++[Value.int .u32 (x4:Int)]++[v5]).length=f+36:=by rw [List.length_append,A4,n5]
 refine Sy.nil<|Sy.then_<|Sy.region<|sp J<|sp J<|sp J<|sP (pT gx (f+36))<|Sy.callT (λw hw=>Ef 256 dZ w0.inn gc gr gx (f+36) tx (A++(x1.map bv)++[v2]++[Value.int .u32 (x3:Int)]++[Value.int .u32 (x4:Int)]++[v5]) Z sl5 s5 (R++N1++N2++N3++N4++N5) S (λb h=>List.mem_append_left _ (List.mem_append_left _ (List.mem_append_left _ (List.mem_append_left _ (List.mem_append_left _ (hS b h)))))) A5 e5 (Nat.le_trans g5 hl) y5 w (by have e:A++(x1.map bv)++[v2]++[Value.int .u32 (x3:Int)]++[Value.int .u32 (x4:Int)]++[v5]++([Value.slice none 0 0]++(Z))=A++(x1.map bv)++[v2]++[Value.int .u32 (x3:Int)]++[Value.int .u32 (x4:Int)]++([v5]++([Value.slice none 0 0]++(Z))):=List.append_assoc ..; rw [e]; exact hw)) (λu M hM=>?_)
 obtain ⟨x6,s6,sl6,cs6,N6,a6,n6,o6,⟨v6,rfl,r6⟩,e6,h6,y6,rfl⟩:=hM
 have g6:s6.rest.length≤s.rest.length:=Nat.le_trans h6 g5
 have A6:(A++(x1.map bv)++[v2]++[Value.int .u32 (x3:Int)]++[Value.int .u32 (x4:Int)]++[v5]++[v6]).length=f+37:=by rw [List.length_append,A5,n6]
 refine Sy.nil ?_
 have hAf:After JI s ⟨x1,x2,x3,x4,x5,x6⟩ s6:=a1.bind (a2.bind (a3.bind (a4.bind (a5.bind (a6.bind (After.ret _ _))))))
 have hLn:(x1.map bv++([v2]++([Value.int .u32 (x3:Int)]++([Value.int .u32 (x4:Int)]++([v5]++([v6])))))).length=37:=by simp only [List.length_append,n1]; rfl
 have hOn:∀ u∈(x1.map bv++([v2]++([Value.int .u32 (x3:Int)]++([Value.int .u32 (x4:Int)]++([v5]++([v6])))))),u.oneCell'=true:=AG o1 (AG o2 (AG o3 (AG o4 (AG o5 (o6)))))
 have hRp:D3 (rdB (N1++(N2++(N3++(N4++(N5++(N6))))))) (x1.map bv++([v2]++([Value.int .u32 (x3:Int)]++([Value.int .u32 (x4:Int)]++([v5]++([v6])))))) ⟨x1,x2,x3,x4,x5,x6⟩:=⟨v2,v5,v6,rfl,r1,r2.le (Ac λb h=>by simp [h]),r3,r4,LstR.le (rep:=DC) Eo (Ac λb h=>by simp [h]) r5,r6.le (Ac λb h=>by simp [h])⟩
 exact Sy.retT0 J (CRS gc gr gx tx (A++((x1.map bv++([v2]++([Value.int .u32 (x3:Int)]++([Value.int .u32 (x4:Int)]++([v5]++([v6]))))))++Z)) sl6 s6.e (R++(N1++(N2++(N3++(N4++(N5++(N6)))))))) (λ_ h=>by simpa only [List.append_assoc,List.cons_append,List.nil_append] using h) (λ_=>⟨_,s6,sl6,_,_,hAf,hLn,hOn,hRp,e6,g6,y6,rfl⟩)
abbrev hd1 (cs:List Value):Value:=cs.headD (.slice none 0 0)
def U2 {α:Type} (k:Nat) (rep:Rdr→List Value→α→Prop) (p:Ps α) (w0:Base) (gc gr:Nat) (s:RS) (R S:AA) (v:Value) (M:AA):Prop :=
 ∃ x s' sl' cs N,After p s x s'∧cs.length=k∧(∀ u∈cs,u.oneCell'=true)∧rep (rdB N) cs x∧v=hd1 cs∧s'.e≤200∧s'.rest.length≤s.rest.length∧BytR (rdC w0 S) sl' s'.rest∧M=CRN gc gr sl' s'.e (R++N)
theorem Hq {C:Rdr} {cs:List Value} {x:Byt} (h:DP C cs x):∃ A n cp,cs=[Value.slice A n cp]:=by
 obtain ⟨v,rfl,A,n,cp,rfl,_⟩:=h
 exact ⟨A,n,cp,rfl⟩
theorem GH:DK 110 1 DP Hs Er wtT:=λw0 gc gw gx f bad s R b cs x hx _ hc hb hl w hw=>by
 obtain ⟨v,rfl,h1⟩:=hx
 refine Sy.enterT (args:=[ptr gc,pT gx f]) hw Tryz.func110 J kL<|Sy.region<|sp J<|sp J<|Sy.callT (λw hw=>Ee w0.inn gc gw gx f bad s R b x v 256 dZ h1 hc.one hb (by unfold wtT at hl; omega) w hw) (λu M hM=>?_)
 obtain ⟨s1,bad1,b1,k1,k2,rfl⟩:=hM
 refine Sy.nil ?_
 exact Sy.retT0 J (CWS gc gw bad1 s1 R) (λ_ h=>h) (λ_=>⟨s1,bad1,b1,k1,k2,rfl⟩)
theorem GI:B4 110 1 [Value.slice none 0 0] DP (Bu 256):=λw0 gc gr gx f tx A Z sl s R S hS hA he hl hv w hw=>by
 refine Sy.enterT (args:=[ptr gc,pT gx f]) hw Tryz.func110 J kL<|Sy.region<|sp J<|sp J<|Sy.callT (λw hw=>Ef 256 dZ w0.inn gc gr gx f tx A Z sl s R S hS hA he hl hv w hw) (λu M hM=>?_)
 refine Sy.nil ?_
 exact Sy.retT0 J _ (λ_ h=>h) (λ_=>hM)
section
variable {α:Type} {rep:Rdr→List Value→α→Prop} {ok:α→Bool} {enc:α→Byt} {wt:α→Nat}
theorem QI (h1:∀ {C cs x},rep C cs x→∃ A n cp,cs=[Value.slice A n cp]) (hm:BI rep) (hp:DK 110 1 rep ok enc wt) (w0:Base) (gc gw g4 g7:Nat) (bad:Bool) (s:Slc) (R:AA) (b:Byt) (u:Value) (cs:List Value) (x:α) (h4:(g4,85,#[ptr gc])∈R) (h7:(g7,238,#[.func (.func 110) #[] #[]])∈R) (hx:rep (rdC w0 R) cs x) (hl:cs.length=1) (hb:BS s b) (hlen:b.length+wt x≤70368744170000) (w:World) (hw:St w0 w (CWS gc gw bad s R)) :
  AL 173 #[u,hd1 cs,ptr g7,ptr g4] w (AQ w0 (WrC gc gw R (ok x) (enc x) (wt x) bad b)):=by
 obtain ⟨A,n,cp,rfl⟩:=h1 hx
 refine Sy.enterT (args:=[u,.slice A n cp,ptr g7,ptr g4]) hw Tryz.func173 J kL<|sC<|sM 27 [Value.slice A n cp].toArray (λg5=>?_)
 refine Sy.permS (List.Perm.of_eq eqCW)<|Sy.nil<|Sy.then_<|Sy.region<|sS (.func (.func 110) #[] #[]) (AH (R:=R++[(g5,27,[Value.slice A n cp].toArray)]) (Aj (inA h7)) Ar J SV)<|sS (ptr gc) (AH (R:=R++[(g5,27,[Value.slice A n cp].toArray)]) (Aj (inA h4)) Ar J CA)<|Sy.callT (λw hw=>hp w0.inn gc gw g5 0 bad s (R++[(g5,27,[Value.slice A n cp].toArray)]) b [Value.slice A n cp] x (hm (B1 (λ_ h=>inA h)) hx) hl (FM CM) hb hlen w hw) (λv M hM=>?_)
 obtain ⟨s1,bad1,b1,h1,h2,rfl⟩:=hM
 refine Sy.nil ?_
 exact Sy.retT0 J (CWS gc gw bad1 s1 R) (λ_ h=>C1 h) (λ_=>⟨s1,bad1,b1,h1,h2,rfl⟩)
end
section
variable {α:Type} {rep:Rdr→List Value→α→Prop} {ok:α→Bool} {enc:α→Byt} {wt:α→Nat}
theorem Nj (h1:∀ {C cs x},rep C cs x→∃ A n cp,cs=[Value.slice A n cp]) (hm:BI rep) (hp:DK 110 1 rep ok enc wt) (w0:Base) (gc gw g4 g7:Nat) (bad:Bool) (s:Slc) (R:AA) (b:Byt) (v:Value) (l:List α) (h4:(g4,85,#[ptr gc])∈R) (h7:(g7,238,#[.func (.func 110) #[] #[]])∈R) (hv:LstR (rdC w0 R) 1 rep v l) (hb:BS s b) (hlen:b.length+(9+(l.map wt).sum)≤70368744170000) (w:World) (hw:St w0 w (CWS gc gw bad s R)) :
  AL 172 #[ptr gw,v,.func (.func 173) #[] #[ptr g7,ptr g4]] w (AQ w0 (WrC gc gw R (l.all ok) (Af l.length++l.flatMap enc) (9+(l.map wt).sum) bad b)):=by
 obtain ⟨A,n,cp,rfl,h2,h3,h4',h5⟩:=hv
 have hmx:n<9223372036854775808:=by simp only [maxLen] at h4'; omega
 refine Sy.enterT (args:=[ptr gw,.slice A n cp,.func (.func 173) #[] #[ptr g7,ptr g4]]) hw Tryz.func172 J kL<|sC<|sp J<|sp J<|sP (.int .i64 (n:Int))<|sS (uZ (n:Int)) (Quiet.pure (λw=>Ce w _ _ _ n om J J))<|Sy.callT (λw hw=>Ev w0.inn gw s ((gc,134,#[ptr gw,.pointer none,.bool bad])::R) b n om hb om w (hw.perm permCW)) (λu M hM=>?_)
 obtain ⟨s1,hs1,rfl⟩:=hM
 have hn9:=Cj n
 refine Sy.permS permCW.symm<|Sy.nil<|sB<|sp J<|sP (.int .i64 (n:Int))<|sP (.int .i64 0)<|sG<|Sy.block ?_
 have hw0:Wrote true (Af n) 9 bad b bad (b++Af n):=Wrote.raw _ _ _ hn9
 have hsum:∀ i,((l.take i).map wt).sum≤(l.map wt).sum:=λi=>by
  have e:=congrArg (λz=>(z.map wt).sum) (List.take_append_drop i l)
  simp only [List.map_append,List.sum_append] at e
  omega
 refine Sy.loopT (Y:=Slc×Bool×Byt) n (λi y=>[(0,ptr gw),(2,.func (.func 173) #[] #[ptr g7,ptr g4]),(13,.slice A n cp),(14,.int .i64 (n:Int)),(15,.int .i64 (i:Int))]) (λi y=>CWS gc gw y.2.1 y.1 R) (λi y=>Wrote ((l.take i).all ok) (Af n++(l.take i).flatMap enc) (9+((l.take i).map wt).sum) bad b y.2.1 y.2.2∧BS y.1 y.2.2) (s1,bad,b++Af n) ⟨by
  have e:Wrote ((l.take 0).all ok) (Af n++(l.take 0).flatMap enc) (9+((l.take 0).map wt).sum) bad b bad (b++Af n):=by
   rw [List.take_zero]
   simpa using hw0
  exact e,hs1⟩ ac5 (λ_ h=>h) (λi y hi hy=>?_)
 obtain ⟨sy,bady,by_⟩:=y
 obtain ⟨hy,hsy⟩:=hy
 dsimp only at hy hsy ⊢
 refine sC ?_
 obtain ⟨b2,hb2⟩:=xE (decide (i<n))
 refine sS (.bool b2) (qls J J J hb2)<|sG<|Sy.seq ?_
 cases b2
 case' false =>
  have l2:=dN hb2
  obtain rfl:i=n:=om
  rw [List.take_of_length_le om] at hy
  refine sU<|Sy.exit<|Sy.then_exit<|Sy.then_exit<|Sy.in_exit ?_
  rw [h2]
  exact Sy.retT0 J (CWS gc gw bady sy R) (λ_ h=>h) (λ_=>⟨sy,bady,by_,hy,hsy,rfl⟩)
 have l2:=dY hb2
 obtain ⟨x,hx⟩:∃ x,l[i]? = some x:=⟨_,List.getElem?_eq_getElem om⟩
 obtain ⟨g,o,rfl,hq⟩:=h5 (by intro e; rw [e] at hx; cases hx)
 obtain ⟨cs,_,c2,c3,c4⟩:=hq i x hx
 obtain ⟨A1,n1,c1,rfl⟩:=h1 c3
 have htk:l.take (i+1)=l.take i++[x]:=by rw [List.take_add_one,hx]; rfl
 have hsi:=hsum (i+1)
 rw [htk] at hsi
 simp only [List.map_append,List.sum_append,List.map_cons,List.map_nil,List.sum_cons,List.sum_nil] at hsi
 refine sT<|Sy.skip<|Sy.then_<|Sy.seq<|Sy.block<|sC<|sS (.pointer (some ⟨g,o+i*1,none⟩)) (Quiet.pure (Bl 149 _ _ _ (some ⟨g,o,none⟩) g o n cp i 1 .i64 J J J J DX kF l2))<|sS (.slice A1 n1 c1) (AH (R:=R) c4.one Ar J Ay)<|sp J<|Sy.nil<|Sy.then_<|Sy.region<|sp J<|sp J<|sp J<|Sy.callT (λw hw=>QI (rep:=rep) (ok:=ok) (enc:=enc) (wt:=wt) h1 hm hp w0.inn gc gw g4 g7 bady sy R by_ (ptr gw) _ x h4 h7 c3 J hsy (by have hyl:=hy.len; omega) w hw) (λv M hM=>?_)
 obtain ⟨s3,bad3,b3,q1,q2,rfl⟩:=hM
 refine Sy.nil<|Sy.in_<|Sy.then_<|Sy.region<|sS (iZ (i+1)) (qad J J J)<|sp J<|Sy.nil ?_
 have hW:=hy.then_ q1
 have hW':Wrote ((l.take (i+1)).all ok) (Af n++(l.take (i+1)).flatMap enc) (9+((l.take (i+1)).map wt).sum) bad b bad3 b3:=by
  rw [htk]
  simp only [List.all_append,List.flatMap_append,List.map_append,List.sum_append,List.all_cons,List.all_nil,List.flatMap_cons,List.flatMap_nil,List.map_cons,List.map_nil,List.sum_cons,List.sum_nil,Bool.and_true,List.append_nil,Nat.add_zero, ← List.append_assoc, ← Nat.add_assoc]
  simpa only [List.append_assoc,Nat.add_assoc] using hW
 exact Sy.againT (s3,bad3,b3) l2 ⟨hW',q2⟩ ac5 (λw h=>h)
theorem FO (h1:∀ {C cs x},rep C cs x→∃ A n cp,cs=[Value.slice A n cp]) (hm:BI rep) (hp:DK 110 1 rep ok enc wt) (w0:Base) (gc gw gx f most:Nat) (hmo:most<1000000) (bad:Bool) (s:Slc) (R:AA) (b:Byt) (v:Value) (l:List α) (hv:LstR (rdC w0 R) 1 rep v l) (hc:rdC w0 R gx f v) (hb:BS s b) (hlen:b.length+(9+(l.map wt).sum)≤70368744170000) (w:World) (hw:St w0 w (CWS gc gw bad s R)) :
  AL 109 #[ptr gc,pT gx f,.int .i64 (most:Int),.func (.func 110) #[] #[]] w (AQ w0 (WrC gc gw R (decide (l.length≤most) && l.all ok) (Af l.length++l.flatMap enc) (9+(l.map wt).sum) bad b)):=by
 have hv0:=hv
 obtain ⟨A,n,cp,rfl,h2,h3,h4',h5⟩:=hv
 refine Sy.enterT (args:=[ptr gc,pT gx f,.int .i64 (most:Int),.func (.func 110) #[] #[]]) hw Tryz.func109 J kL<|sC<|sM 85 #[ptr gc] (λg4=>?_)
 refine Sy.permS (List.Perm.of_eq eqCW)<|sM 238 #[.func (.func 110) #[] #[]] (λg7=>?_)
 refine Sy.permS (List.Perm.of_eq eqCW) ?_
 obtain ⟨R1,hR1⟩:=xE (R++[(g4,85,#[ptr gc])]++[(g7,238,#[.func (.func 110) #[] #[]])])
 rw [← hR1]
 have m4:(g4,85,#[ptr gc])∈R1:=by rw [hR1]; exact inA CM
 have m7:(g7,238,#[.func (.func 110) #[] #[]])∈R1:=by rw [hR1]; exact CM
 have mR:∀ x∈R,x∈R1:=λx hx=>by rw [hR1]; exact inA (inA hx)
 have hv1:LstR (rdC w0 R1) 1 rep (.slice A n cp) l:=LstR.le (rep:=rep) hm (B1 mR) hv0
 have hc1:rdC w0 R1 gx f (.slice A n cp):=B1 mR _ _ _ hc
 have back:∀ {w:World} {bad':Bool} {s':Slc},St w0 w (CWS gc gw bad' s' R1)→St w0 w (CWS gc gw bad' s' R):=λh=>by
  rw [hR1,List.append_assoc] at h
  exact C1 h
 refine sG<|Sy.seq<|sC<|sS (ptr gc) (AH (R:=R1) (Aj m4) Ar J CA)<|sS (.bool false) (qg (λw hw=>CX w0.inn gc _ _ (List.mem_cons_self ..) w hw))<|sG<|sU<|Sy.skip ?_
 obtain ⟨b1,hb1⟩:=xE (decide (n≤most))
 refine sR (λj=>j == 7) ?_
 refine sD 0 J (ptr gc) (AH (R:=R1) (Aj m4) Ar J CA)<|sa 1 J J<|sa 2 J J<|se 3 [4,6,7] rfl (.slice A n cp) (AH (R:=R1) hc1 Ar J DX)<|sb 4 J (.int .i64 (n:Int))<|sa 5 J J<|sv 6 J (.bool b1) (AD .leq _ _ _ .i64 _ _ _ J J J (C' _ _ _ _ _ (by rw [hb1]; exact decide_eq_decide.2 om)))<|Sy.soleD 7 J (λQ2 hq2=>?_)
 refine Sy.callT (λw hw=>Bt w0.inn gc gw bad b1 s R1 w hw) (λu M hM=>?_)
 subst hM
 refine hq2 _ _<|sE ?_
 obtain ⟨bad1,hbad1⟩:=xE ((bad || !b1))
 rw [← hbad1]
 refine sB<|sS (ptr gc) (AH (R:=R1) (Aj m4) Ar J CA)<|sp J<|sP (pT gc 2)<|sS (.bool bad1) (qc 0 2 J J uy4)<|sP (.bool (!bad1))<|sG ?_
 cases bad1
 ·have hb1t:bad=false∧b1=true:=by cases bad <;> cases b1 <;> first | exact ⟨rfl,rfl⟩ | cases hbad1
  obtain ⟨rfl,rfl⟩:=hb1t
  have e1:decide (l.length≤most)=true:=by rw [h2, ← hb1]
  rw [e1,Bool.true_and]
  refine sT<|Sy.regionD (λj=>j == 8) kR<|se 0 [1,2,3,8] rfl (ptr gc) (AH (R:=R1) (Aj m4) Ar J CA)<|sa 1 J J<|sb 2 J (pT gc 0)<|sD 3 J (ptr gw) (qc 0 0 J J D0)<|sa 4 J J<|sa 5 J J<|sD 6 J (.slice A n cp) (AH (R:=R1) hc1 Ar J DX)<|sb 7 J (.func (.func 173) #[] #[ptr g7,ptr g4])<|Sy.soleD 8 J (λQ2 hq2=>?_)
  refine Sy.callT (λw hw=>Nj (rep:=rep) h1 hm hp w0.inn gc gw g4 g7 false s R1 b (.slice A n cp) l m4 m7 hv1 hb hlen w hw) (λu M hM=>?_)
  obtain ⟨s1,bad2,b2,q1,q2,rfl⟩:=hM
  refine hq2 _ _<|sE ?_
  exact Sy.retT0 J (CWS gc gw bad2 s1 R) (λ_ h=>back h) (λ_=>⟨s1,bad2,b2,q1,q2,rfl⟩)
 ·refine sU<|Sy.skip ?_
  have e1:true=(bad || !(decide (l.length≤most) && l.all ok)):=by
   rw [h2, ← hb1]
   cases bad
   ·cases b1
    ·rfl
    ·cases hbad1
   ·rfl
  exact Sy.retT0 J (CWS gc gw true s R) (λ_ h=>back h) (λ_=>⟨s,true,b,⟨e1,λh=>(by cases h),by omega⟩,hb,rfl⟩)
end
section
variable {α:Type} {rep:Rdr→List Value→α→Prop} {p:Ps α}
theorem QM (h1:∀ {C cs x},rep C cs x→∃ A n cp,cs=[Value.slice A n cp]) (hm:BI rep) (hp:B4 110 1 ([Value.slice none 0 0]) rep p) (w0:Base) (gc gr g4 g7:Nat) (sl:Value) (s:RS) (R S:AA) (hS:∀ b∈S,b∈R) (h4:(g4,85,#[ptr gc])∈R) (h7:(g7,238,#[.func (.func 110) #[] #[]])∈R) (he:s.e≤200) (hl:s.rest.length≤70368744177664) (hv:BytR (rdC w0 S) sl s.rest) (u:Value) (w:World) (hw:St w0 w (CRN gc gr sl s.e R)) :
  AL 171 #[u,ptr g7,ptr g4] w (AQ w0 (U2 1 rep p w0 gc gr s R S)):=by
 refine Sy.enterT (args:=[u,ptr g7,ptr g4]) hw Tryz.func171 J kL<|sC<|sP (.slice none 0 0)<|sA<|sM 27 #[.slice none 0 0] (λgb=>?_)
 refine Sy.permS (M:=CRS gc gr gb 27 ([]++([Value.slice none 0 0]++[])) sl s.e R) (List.Perm.cons _ (List.perm_append_comm (l₁:=_::R) (l₂:=[_])))<|sA<|sS (.func (.func 110) #[] #[]) (AH (R:=R) (Aj h7) Dh J SV)<|sS (ptr gc) (AH (R:=R) (Aj h4) Dh J CA)<|Sy.callT (λw hw=>hp w0.inn gc gr gb 0 27 [] [] sl s R S hS J he hl hv w hw) (λv M hM=>?_)
 obtain ⟨x,s',sl',cs,N,q1,q2,q3,q4,q5,q6,q7,rfl⟩:=hM
 obtain ⟨A1,n1,c1,rfl⟩:=h1 q4
 refine sA<|sS (.slice A1 n1 c1) (qc 1 0 J J Ay)<|sp J<|sG<|Sy.ret ?_
 exact Sy.retT1 (CRN gc gr sl' s'.e (R++N)) J (.inl (show _=_ by kernel_rfl)) (λw h=>h.less ((List.Sublist.refl _).cons _ |>.cons_cons _)) ⟨x,s',sl',_,N,q1,q2,q3,q4,rfl,q5,q6,q7,rfl⟩
theorem KX (w:World) (gr most g4 g7:Nat):AL 211 #[ptr gr,.int .i64 (most:Int),.func (.func 171) #[] #[ptr g7,ptr g4]] w (A0 w (λv M=>∃ a b c,v=.func (.func 239) #[] #[ptr a,ptr b,ptr c]∧M=[(a,132,#[ptr gr]),(b,3,#[.int .i64 (most:Int)]),(c,306,#[.func (.func 171) #[] #[ptr g7,ptr g4]])])):=by
 refine Sy.enter (args:=[ptr gr,.int .i64 (most:Int),.func (.func 171) #[] #[ptr g7,ptr g4]]) Tryz.func211 J kL<|sC<|sM 132 #[ptr gr] (λa=>?_)
 refine sM 3 #[.int .i64 (most:Int)] (λb=>?_)
 refine sM 306 #[.func (.func 171) #[] #[ptr g7,ptr g4]] (λc=>?_)
 refine sP .nilFunc<|sA<|sP (.func (.func 239) #[] #[ptr a,ptr b,ptr c])<|sp J<|sG<|Sy.ret ?_
 exact Sy.retGM _ J (.inl (show _=_ by kernel_rfl)) (λ_ h=>h) ⟨a,b,c,rfl,rfl⟩
noncomputable def Ru:TypeInfo:=(Tryz.prog.info? 27).getD default
theorem Kb:Tryz.prog.info? 27=some Ru:=kZ
def NA (p:Ps α) (rep:Rdr→List Value→α→Prop) (w0:Base) (S:AA) (m:Nat) (s1:RS) (v:Nat×List Value) (y:YL α):Prop:=∃ x,y.x=some x∧y.l.length=v.1∧RowsOk 27 1 rep y.r y.N y.l∧rep (rdB y.N) v.2 x∧v.2.length=1∧(∀ u∈v.2,u.oneCell'=true)∧v.1<1000000
def Jo (rep:Rdr→List Value→α→Prop) (y y':YL α):Prop:=∃ x r',y.x=some x∧RowsOk 27 1 rep r' y.N (y.l++[x])∧y'={ y with l:=y.l++[x],r:=r',x:=none }
theorem Lk (h1:∀ {C cs x},rep C cs x→∃ A n cp,cs=[Value.slice A n cp]) (hm:BI rep) (hp:B4 110 1 ([Value.slice none 0 0]) rep p) (w0:Base) (fz:World) (gc gr gl g4 g7 a b c most:Nat) (hmost:most<1000000) (R S:AA) (s0:RS) (sl0:Value) (hS:∀ x∈S,x∈R) (h4:(g4,85,#[ptr gc])∈R) (h7:(g7,238,#[.func (.func 110) #[] #[]])∈R) (ha:(a,132,#[ptr gr])∈R) (hb:(b,3,#[.int .i64 (most:Int)])∈R) (hc:(c,306,#[.func (.func 171) #[] #[ptr g7,ptr g4]])∈R) (he:s0.e≤200) (hl:s0.rest.length≤70368744177664) (hv:BytR (rdC w0 S) sl0 s0.rest) (lp:Nat) (w:World) (hw:St (ib w0.world fz) w (LBL gc gr gl 149 nilS s0.e sl0 R []))
  (hY:∀ (v:Nat×List Value) (y:YL α) (W:World),(NA p rep w0 S 0 s0 v y)→St (ib w0.world fz) W (LBL gc gr gl 149 y.r y.s.e y.sl R y.N)→YieldAt Fence.wide 7 Tryz.prog lp #[.int .i64 (v.1:Int),hd1 v.2] W (Fb w0.world fz (Jo rep y) (λy=>LBL gc gr gl 149 y.r y.s.e y.sl R y.N))) :
  CallsIn Fence.wide 8 Tryz.prog 239 #[.func (.yield lp) #[] #[],ptr a,ptr b,ptr c] w (Iw w0.world fz (λy:YL α=>∃ m s1,After (Dw most) s0 m s1∧s1.rest.length≤s0.rest.length∧y.l.length≤most∧InvL 27 1 rep p w0 S m s1 y.l.length y∧(y.s.e=0→y.l.length=m)) (λy=>LBL gc gr gl 149 y.r y.s.e y.sl R y.N)):=by
 refine Sy.enterI (args:=[.func (.yield lp) #[] #[],ptr a,ptr b,ptr c]) hw Tryz.func239 J kL<|sC<|sS (ptr gr) (AH (R:=R) (Aj ha) BH J BD)<|sS (.int .i64 (most:Int)) (AH (R:=R) (Aj hb) BH J uy3)<|Sy.callT (λw hw=>EH (ib w0.world fz) gr sl0 s0 ((gc,134,#[.pointer none,ptr gr,.bool false])::(gl,149,#[.slice none 0 0])::(R++[])) S (λx h=>List.mem_cons_of_mem _ (List.mem_cons_of_mem _ (List.mem_append_left _ (hS x h)))) most hmost he hv w (hw.perm swap12)) (λu M hM=>?_)
 obtain ⟨m,s1,sl1,hA1,⟨rfl,hm1⟩,hs1e,hs1r,hs1b,rfl⟩:=hM
 refine Sy.permS (M:=LBL gc gr gl 149 nilS s1.e sl1 R []) swap12.symm<|sp J<|sA<|sP (.int .i64 0)<|sG<|Sy.block<|Sy.loopT (Y:=YL α) m (λi y=>[(0,.func (.yield lp) #[] #[]),(1,ptr a),(2,ptr b),(3,ptr c),(5,.int .i64 (m:Int)),(6,.int .i64 (i:Int))]) (λi y=>LBL gc gr gl 149 y.r y.s.e y.sl R y.N) (λi y=>InvL 27 1 rep p w0 S m s1 i y) ⟨[],nilS,s1,sl1,[],none⟩ ⟨rfl,RowsOk.nil,λh=>⟨h,rfl⟩,λh=>.inl h,hs1e,Nat.le_refl _,hs1b⟩ ac6 (λ_ h=>h) (λi y hi hy=>?_)
 obtain ⟨l,r,s,sl,N,xo⟩:=y
 have hylen:l.length=i:=hy.len
 refine Sy.seq<|sC ?_
 obtain ⟨b1,hb1⟩:=xE (decide (i<m))
 refine sp J<|sp J<|sS (.bool b1) (qls J J J hb1)<|sp J ?_
 cases b1
 case' false =>
  have l1:=dN hb1
  obtain rfl:i=m:=om
  refine sN<|sN<|sN<|sP (.bool false)<|sG<|sU<|Sy.exit<|Sy.then_exit<|Sy.then_exit<|Sy.in_exit ?_
  exact Sy.retI J (λv w h=>⟨⟨_,rfl⟩,⟨l,r,s,sl,N,xo⟩,⟨i,s1,hA1,hs1r,by show l.length≤most; omega,by rw [show (⟨l,r,s,sl,N,xo⟩:YL α).l.length=i from hylen]; exact hy,λ_=>hylen⟩,h⟩) (.inr J)
 have l1:=dY hb1
 obtain ⟨b2,hb2⟩:=xE (decide (s.e=0))
 have hse:s.e≤200:=hy.e
 refine sS (ptr gr) (AH (R:=R) (Aj ha) BH J BD)<|sS (.int .i64 (s.e:Int)) (qg (λw hw=>Bc (ib w0.world fz) gr sl s.e [] (List.mem_cons_of_mem _ (List.mem_cons_self ..)) w hw))<|sS (.bool b2) (qeq J J J hb2)<|sP (.bool b2)<|sG ?_
 cases b2
 case' false =>
  have l2:=dN hb2
  refine sU<|Sy.exit<|Sy.then_exit<|Sy.then_exit<|Sy.in_exit ?_
  exact Sy.retI J (λv w h=>⟨⟨_,rfl⟩,⟨l,r,s,sl,N,xo⟩,⟨m,s1,hA1,hs1r,by show l.length≤most; omega,by rw [show (⟨l,r,s,sl,N,xo⟩:YL α).l.length=i from hylen]; exact hy,λh=>(l2 h).elim⟩,h⟩) (.inr J)
 have l2:=dY hb2
 obtain ⟨hs10,hrep⟩:=hy.yes l2
 refine sT<|Sy.skip<|Sy.then_<|Sy.seq<|Sy.block<|sC<|sS (.func (.func 171) #[] #[ptr g7,ptr g4]) (AH (R:=R) (Aj hc) BH J Tv)<|sS (ptr gr) (AH (R:=R) (Aj ha) BH J BD)<|Sy.callT (λw hw=>QM (rep:=rep) (p:=p) h1 hm hp (ib w0.world fz) gc gr g4 g7 sl s ((gl,149,#[r.v])::(r.bl++(R++N))) S (λx h=>List.mem_cons_of_mem _ (List.mem_append_right _ (List.mem_append_left _ (hS x h)))) (List.mem_cons_of_mem _ (List.mem_append_right _ (List.mem_append_left _ h4))) (List.mem_cons_of_mem _ (List.mem_append_right _ (List.mem_append_left _ h7))) hse (Nat.le_trans (Nat.le_trans hy.rest hs1r) hl) hy.byt (ptr gr) w hw) (λu M hM=>?_)
 obtain ⟨x,s',sl',cs,N1,q1,q2,q3,q4,rfl,q5,q6,q7,rfl⟩:=hM
 obtain ⟨st1,st2⟩:=Eh hrep l2 q1
 obtain ⟨A9,n9,c9,rfl⟩:=h1 q4
 refine Sy.permS (M:=LBL gc gr gl 149 r s'.e sl' R (N++N1)) (List.Perm.of_eq (by simp only [List.cons_append,List.append_assoc,List.nil_append]))<|sp J<|Sy.nil<|Sy.then_ ?_
 have hR2:RowsOk 27 1 rep r (N++N1) l:=RowsOk.more (rep:=rep) hm hy.rows (λb h=>List.mem_append_left _ h)
 have hx2:rep (rdB (N++N1)) [.slice A9 n9 c9] x:=hm (Ac λb h=>List.mem_append_right _ h) q4
 have drop1:∀ {w:World},St (ib w0.world fz) w (LBL gc gr gl 149 r s'.e sl' R (N++N1))→St (ib w0.world fz) w (LBL gc gr gl 149 r s'.e sl' R (N++N1)):=λh=>h
 obtain ⟨b3,hb3⟩:=xE (decide (s'.e≠0))
 have inl:∀ b∈R,b∈LBL gc gr gl 149 r s'.e sl' R (N++N1):=λb h=>BH b h
 refine Sy.seq ?_
 cases b3
 case' true =>
  have l3:=dY hb3
  refine Sy.region<|sS (ptr gr) (AH (R:=R) (Aj ha) inl J BD)<|sS (.int .i64 (s'.e:Int)) (qg (λw hw=>Bc (ib w0.world fz) gr sl' s'.e [] (List.mem_cons_of_mem _ (List.mem_cons_self ..)) w hw))<|sS (.bool true) (qne J J J hb3)<|sp J<|sN<|sN<|sN<|sN<|sN<|sP (.bool true)<|sG<|sT<|Sy.ret<|Sy.in_ret<|Sy.then_ret<|Sy.then_ret<|Sy.in_ret ?_
  exact Sy.retI J (λv w h=>⟨⟨_,rfl⟩,⟨l,r,s',sl',N++N1,none⟩,⟨m,s1,hA1,hs1r,by show l.length≤most; omega,⟨rfl,hR2,λh=>(l3 h).elim,λ_=>.inr (st2 l3 m l1),q5,Nat.le_trans q6 hy.rest,q7⟩,λh=>(l3 h).elim⟩,drop1 h⟩) (.inl J)
 have l3:s'.e=0:=Decidable.of_not_not (of_decide_eq_false hb3.symm)
 refine Sy.regionI 7 (by rintro ⟨_,_,⟨_,hv⟩,_⟩; cases hv) kR<|sS (ptr gr) (AH (R:=R) (Aj ha) inl rfl BD)<|sS (.int .i64 (s'.e:Int)) (qg (λw hw=>Bc (ib w0.world fz) gr sl' s'.e [] (List.mem_cons_of_mem _ (List.mem_cons_self ..)) w hw))<|sS (.bool false) (qne rfl rfl rfl hb3)<|sp rfl<|sp rfl<|sp rfl<|sp rfl<|Sy.nil<|Sy.yieldI (HR:=Jo rep ⟨l,r,s',sl',N++N1,some x⟩) (LR:=λy=>LBL gc gr gl 149 y.r y.s.e y.sl R y.N) rfl (by rintro ⟨_,_,⟨_,hv⟩,_⟩; cases hv) kR kR lp #[.int .i64 (i:Int),.slice A9 n9 c9] kF (λw hw=>hY (i,[.slice A9 n9 c9]) ⟨l,r,s',sl',N++N1,some x⟩ w ⟨x,rfl,hylen,hR2,hx2,q2,q3,by show i<1000000; omega⟩ (drop1 hw)) (λy' hy'=>?_)
 obtain ⟨x',r',hx',hr',rfl⟩:=hy'
 obtain rfl:x=x':=by injection hx'
 refine sP (.bool false)<|sP (.bool false)<|sG<|sU<|Sy.skip<|Sy.in_<|Sy.then_<|Sy.region<|sp J<|sS (iZ (i+1)) (qad J J J)<|sp J<|Sy.nil ?_
 exact Sy.againT ⟨l++[x],r',s',sl',N++N1,none⟩ l1 ⟨by simp [hylen],hr',λ_=>⟨hs10,st1 l3⟩,λh=>(h l3).elim,q5,Nat.le_trans q6 hy.rest,q7⟩ ac6 (λw h=>h)
theorem KS (h1:∀ {C cs x},rep C cs x→∃ A n cp,cs=[Value.slice A n cp]) (hm:BI rep) (hp:B4 110 1 ([Value.slice none 0 0]) rep p) (w0:Base) (gc gr g4 g7 most:Nat) (hmost:most<1000000) (sl0:Value) (s0:RS) (R S:AA) (hS:∀ x∈S,x∈R) (h4:(g4,85,#[ptr gc])∈R) (h7:(g7,238,#[.func (.func 110) #[] #[]])∈R) (he:s0.e≤200) (hl:s0.rest.length≤70368744177664) (hv:BytR (rdC w0 S) sl0 s0.rest) (w:World) (hw:St w0 w (CRN gc gr sl0 s0.e R)) :
  AL 170 #[ptr gr,.int .i64 (most:Int),.func (.func 171) #[] #[ptr g7,ptr g4]] w (AQ w0 (RdL 1 rep (Cz most p) w0 gc gr s0 R S)):=by
 refine Sy.enterTM (args:=[ptr gr,.int .i64 (most:Int),.func (.func 171) #[] #[ptr g7,ptr g4]]) hw Tryz.func170 J kL<|sC<|sP (.slice none 0 0)<|sA<|sM 149 #[.slice none 0 0] (λgl=>?_)
 refine sG<|Sy.seq<|sC<|sp J<|sp J<|sp J<|Sy.callN kR 211 #[ptr gr,.int .i64 (most:Int),.func (.func 171) #[] #[ptr g7,ptr g4]] kF _ (λw _=>KX w gr most g4 g7) (λv M hM=>?_)
 obtain ⟨a,b,c,rfl,rfl⟩:=hM
 refine Sy.nil<|Sy.then_<|Sy.block ?_
 obtain ⟨R1,hR1⟩:=xE (R++[(a,132,#[ptr gr]),(b,3,#[.int .i64 (most:Int)]),(c,306,#[.func (.func 171) #[] #[ptr g7,ptr g4]])])
 refine Sy.permC (M:=LBL gc gr gl 149 nilS s0.e sl0 R1 []) (by rw [hR1]; exact Hn) ?_
 have mR:∀ x∈R,x∈R1:=λx hx=>by rw [hR1]; exact List.mem_append_left _ hx
 have ma:(a,132,#[ptr gr])∈R1:=by rw [hR1]; simp
 have mb:(b,3,#[.int .i64 (most:Int)])∈R1:=by rw [hR1]; simp
 have mc:(c,306,#[.func (.func 171) #[] #[ptr g7,ptr g4]])∈R1:=by rw [hR1]; simp
 refine Sy.rangeT (α:=Nat×List Value) (Y:=YL α) (Z:=Unit) 239 #[ptr a,ptr b,ptr c] kR kR (enters_of Tryz.func239 kR J) (λv=>#[.int .i64 (v.1:Int),hd1 v.2]) (λ_=>rfl) dZ
  (NA p rep w0 S 0 s0) (λ_ y=>LBL gc gr gl 149 y.r y.s.e y.sl R1 y.N) (λv _ _=>[(7,ptr gl),(9,hd1 v.2)]) (λ_ y _=>LBL gc gr gl 149 y.r y.s.e y.sl R1 y.N) (λ_ y=>Jo rep y) (λy=>LBL gc gr gl 149 y.r y.s.e y.sl R1 y.N)
  (λy:YL α=>∃ m s1,After (Dw most) s0 m s1∧s1.rest.length≤s0.rest.length∧y.l.length≤most∧InvL 27 1 rep p w0 S m s1 y.l.length y∧(y.s.e=0→y.l.length=m)) (λy=>LBL gc gr gl 149 y.r y.s.e y.sl R1 y.N) ?_ ?_ ?_ ?_
 ·exact λlp fz w hw hY=>Lk (rep:=rep) (p:=p) h1 hm hp w0 fz gc gr gl g4 g7 a b c most hmost R1 S s0 sl0 (λx h=>mR x (hS x h)) (mR _ h4) (mR _ h7) ma mb mc he hl hv lp w hw hY
 ·rintro lp fz ⟨i,cs⟩ ⟨l,r,s,sl,N,xo⟩ ⟨x,rfl,_,_,_,c1,c2,_⟩
  dsimp only at c1 c2 ⊢
  refine Sy.regionR (by rintro ⟨_,_,h⟩; exact h) kR ⟨_,rfl⟩<|sp rfl<|Sy.nil ?_
  exact apZ () ac2 (λ_ h=>h)
 ·rintro lp fz ⟨i,cs⟩ ⟨l,r,s,sl,N,xo⟩ z ⟨x,rfl,hli,⟨xs,x1,x2,x3⟩,hx,_,c2,hi⟩
  obtain ⟨A9,n9,c9,e9⟩:=h1 hx
  dsimp only at e9 c2 hli x1 x2 x3 hx hi ⊢
  subst e9
  refine Sy.block<|Sy.regionR (by rintro ⟨_,_,h⟩; exact h) kR ⟨_,rfl⟩<|sS r.v (qc 2 0 rfl rfl DX)<|sp rfl<|Sy.make kR 27 #[Value.slice A9 n9 c9] (λg=>.slice (pA g) 1 1) kF (λg8=>?_)
  refine Sy.permS (M:=[(gc,134,#[.pointer none,ptr gr,.bool false]),(gr,253,#[sl,.int .i64 (s.e:Int)]),(gl,149,#[r.v]),(g8,27,#[Value.slice A9 n9 c9])]++(r.bl++(R1++N))) (Sy.flat_perm (ls:=[[(gc,134,#[.pointer none,ptr gr,.bool false]),(gr,253,#[sl,.int .i64 (s.e:Int)]),(gl,149,#[r.v])],r.bl++(R1++N),[(g8,27,#[Value.slice A9 n9 c9])]]) (ms:=[[(gc,134,#[.pointer none,ptr gr,.bool false]),(gr,253,#[sl,.int .i64 (s.e:Int)]),(gl,149,#[r.v])],[(g8,27,#[Value.slice A9 n9 c9])],r.bl++(R1++N)]) [0,2,1] kZ (by rfl) (by simp) (by simp))<|Sy.appendR kR 149 27 _ _ 1 24 DX Kb J J J J dZ _ _ J x1 kR [.slice A9 n9 c9] rfl c2 3 g8 27 kR kR om (by simp only [maxLen]; omega) (λr' hr'=>?_)
  refine sw 2 J #[r'.v] (Writes.one 0 149 r'.v _ _ J kR kR kR hr'.cells.1 hr'.cells.2 Nat.zero_lt_one kR)<|Sy.setT<|Sy.nil<|Sy.in_ ?_
  exact bpZ ⟨l++[x],r',s,sl,N,none⟩ ⟨x,r',rfl,RowsOk.add (rep:=rep) x2 x3 hr' hx,rfl⟩ (λw h=>Sy.St.parts (ls:=[[(gc,134,#[.pointer none,ptr gr,.bool false]),(gr,253,#[sl,.int .i64 (s.e:Int)]),(gl,149,#[r'.v])],[(g8,27,#[Value.slice A9 n9 c9])],r'.bl++(R1++N)]) (ms:=[[(gc,134,#[.pointer none,ptr gr,.bool false]),(gr,253,#[sl,.int .i64 (s.e:Int)]),(gl,149,#[r'.v])],r'.bl++(R1++N)]) [[(g8,27,#[Value.slice A9 n9 c9])]] [0,2,1] kZ (by rfl) (by simp) (by simp) h)
 ·rintro D fz ⟨l,r,s,sl,N,xo⟩ ⟨m,s1,hA1,hs1,hlm,hI,hdn⟩ hD hD2 hmk h0
  dsimp only at hI hdn hlm ⊢
  have hse:s.e≤200:=hI.e
  have hrest:s.rest.length≤s0.rest.length:=Nat.le_trans hI.rest hs1
  refine Sy.in_<|Sy.then_<|Sy.seq<|sC ?_
  obtain ⟨b1,hb1⟩:=xE (decide (s.e≠0))
  refine sp J<|sS (.int .i64 (s.e:Int)) (qg (λw hw=>Bc (ab w0.world fz D) gr sl s.e [] (List.mem_cons_of_mem _ (List.mem_cons_self ..)) w hw))<|sS (.bool b1) (qne J J J hb1)<|sG ?_
  cases b1
  ·have l1:s.e=0:=Decidable.of_not_not (of_decide_eq_false hb1.symm)
   obtain ⟨z1,z2⟩:=hI.yes l1
   rw [hdn l1] at z2
   refine sU<|Sy.skip<|sB<|sS r.v (qc 2 0 J J DX)<|sp J<|sG<|Sy.ret<|Sy.retTM1 (b0:=w0) (M:=CRN gc gr sl s.e (R++(N++r.bl))) J (.inl (show _=_ by kernel_rfl)) (λw h=>Sy.St.parts (ls:=[[(gc,134,#[.pointer none,ptr gr,.bool false]),(gr,253,#[sl,.int .i64 (s.e:Int)])],[(gl,149,#[r.v])],r.bl,R,[(a,132,#[ptr gr]),(b,3,#[.int .i64 (most:Int)]),(c,306,#[.func (.func 171) #[] #[ptr g7,ptr g4]])],N]) (ms:=[[(gc,134,#[.pointer none,ptr gr,.bool false]),(gr,253,#[sl,.int .i64 (s.e:Int)])],R,N,r.bl]) [[(gl,149,#[r.v])],[(a,132,#[ptr gr]),(b,3,#[.int .i64 (most:Int)]),(c,306,#[.func (.func 171) #[] #[ptr g7,ptr g4]])]] [0,3,5,2,1,4] kZ (by rfl) (by rw [hR1]; simp) (by simp) h) ⟨l,s,sl,N++r.bl,hA1.bind ⟨λh=>(h z1).elim,λy q _ hy=>?_,λ_ hy=>?_⟩,RowsOk.lst (rep:=rep) hm hI.rows,hse,hrest,hI.byt,rfl⟩ hD hD2 hmk h0.out
   ·rw [z2] at hy
    cases hy
    exact ⟨rfl,by rw [← l1]⟩
   ·rw [z2] at hy; cases hy
  ·have l1:=dY hb1
   refine sT<|sC<|sP (.slice none 0 0)<|sG<|Sy.ret<|Sy.then_ret<|Sy.retTM1 (b0:=w0) (M:=CRN gc gr sl s.e (R++[])) J (.inl (show _=_ by kernel_rfl)) (λw h=>Sy.St.parts (ls:=[[(gc,134,#[.pointer none,ptr gr,.bool false]),(gr,253,#[sl,.int .i64 (s.e:Int)])],[(gl,149,#[r.v])],r.bl,R,[(a,132,#[ptr gr]),(b,3,#[.int .i64 (most:Int)]),(c,306,#[.func (.func 171) #[] #[ptr g7,ptr g4]])],N]) (ms:=[[(gc,134,#[.pointer none,ptr gr,.bool false]),(gr,253,#[sl,.int .i64 (s.e:Int)])],R]) [[(gl,149,#[r.v])],r.bl,[(a,132,#[ptr gr]),(b,3,#[.int .i64 (most:Int)]),(c,306,#[.func (.func 171) #[] #[ptr g7,ptr g4]])],N] [0,3,1,2,4,5] kZ (by rfl) (by rw [hR1]; simp) (by simp) h) ⟨[],s,sl,[],hA1.bind ⟨λ_=>l1,λy q h1 hy=>?_,λ_ _=>l1⟩,⟨none,0,0,rfl,rfl,Nat.le_refl _,Nat.zero_le _,λh=>(h J).elim⟩,hse,hrest,hI.byt,rfl⟩ hD hD2 hmk h0.out
   rcases hI.no l1 with h | h
   ·exact (h h1).elim
   ·rw [h] at hy; cases hy
theorem FT (h1:∀ {C cs x},rep C cs x→∃ A n cp,cs=[Value.slice A n cp]) (hm:BI rep) (hp:B4 110 1 ([Value.slice none 0 0]) rep p) (w0:Base) (gc gr gx f most:Nat) (hmost:most<1000000) (tx:TypeId) (A Z:List Value) (sl:Value) (s:RS) (R S:AA) (hS:∀ b∈S,b∈R) (hA:A.length=f) (he:s.e≤200) (hl:s.rest.length≤70368744177664) (hv:BytR (rdC w0 S) sl s.rest) (w:World) (hw:St w0 w (CRS gc gr gx tx (A++([Value.slice none 0 0]++Z)) sl s.e R)) :
  AL 109 #[ptr gc,pT gx f,.int .i64 (most:Int),.func (.func 110) #[] #[]] w (AQ w0 (RdT 1 (Na 1 rep) (Cz most p) w0 gc gr gx tx A Z s R S)):=by
 refine Sy.enterT (args:=[ptr gc,pT gx f,.int .i64 (most:Int),.func (.func 110) #[] #[]]) hw Tryz.func109 J kL<|sC<|sM 85 #[ptr gc] (λg4=>?_)
 refine sM 238 #[.func (.func 110) #[] #[]] (λg7=>?_)
 obtain ⟨R1,hR1⟩:=xE (R++([(g4,85,#[ptr gc])]++[(g7,238,#[.func (.func 110) #[] #[]])]))
 refine Sy.permS (M:=CRS gc gr gx tx (A++([Value.slice none 0 0]++Z)) sl s.e R1) (List.Perm.of_eq (by rw [hR1]; simp)) ?_
 have mR:∀ x∈R,x∈R1:=λx hx=>by rw [hR1]; exact List.mem_append_left _ hx
 have m4:(g4,85,#[ptr gc])∈R1:=by rw [hR1]; simp
 have m7:(g7,238,#[.func (.func 110) #[] #[]])∈R1:=by rw [hR1]; simp
 refine sG<|Sy.seq<|sC<|sS (ptr gc) (AH (R:=R1) (Aj m4) Dh J CA)<|sS (.bool true) (qg (λw hw=>CL w0.inn gc gr _ _ (List.mem_cons_self ..) w hw))<|sG<|sT<|sC<|sp J<|sS (ptr gc) (AH (R:=R1) (Aj m4) Dh J CA)<|sp J<|sP (pT gc 1)<|sS (ptr gr) (qc 0 1 J J BD)<|sp J<|sP (.func (.func 171) #[] #[ptr g7,ptr g4])<|Sy.callT (λw hw=>KS (rep:=rep) (p:=p) h1 hm hp w0.inn gc gr g4 g7 most hmost sl s ((gx,tx,(A++([Value.slice none 0 0]++Z)).toArray)::R1) S (λx h=>List.mem_cons_of_mem _ (mR x (hS x h))) (List.mem_cons_of_mem _ m4) (List.mem_cons_of_mem _ m7) he hl hv w (hw.perm BU)) (λv M hM=>?_)
 obtain ⟨l,s',sl',N,q1,q2,q3,q4,q5,rfl⟩:=hM
 refine Sy.permS (M:=CRS gc gr gx tx (A++([Value.slice none 0 0]++Z)) sl' s'.e (R1++N)) BU<|sp J<|sw 1 J (A++([v]++Z)).toArray (Writes.one f 149 v _ _ J kR kR kR q2.cells.1 q2.cells.2 (by rw [List.size_toArray,List.length_append,hA]; exact Nat.lt_add_of_pos_right (Nat.succ_pos _)) (Aq hA))<|sG<|Sy.ret<|Sy.then_ret ?_
 exact Sy.retT0 J (CRS gc gr gx tx (A++([v]++Z)) sl' s'.e (R++N)) (λw h=>Sy.St.parts (ls:=[[(gc,134,#[.pointer none,ptr gr,.bool false]),(gx,tx,(A++([v]++Z)).toArray),(gr,253,#[sl',.int .i64 (s'.e:Int)])],R,[(g4,85,#[ptr gc])]++[(g7,238,#[.func (.func 110) #[] #[]])],N]) (ms:=[[(gc,134,#[.pointer none,ptr gr,.bool false]),(gx,tx,(A++([v]++Z)).toArray),(gr,253,#[sl',.int .i64 (s'.e:Int)])],R,N]) [[(g4,85,#[ptr gc])]++[(g7,238,#[.func (.func 110) #[] #[]])]] [0,1,3,2] kZ (by rfl) (by rw [hR1]; simp) (by simp) h) (λ_=>⟨l,s',sl',[v],N,q1,rfl,λu hu=>by rw [List.mem_singleton.1 hu]; exact q2.cells.2,⟨v,rfl,q2⟩,q3,q4,q5,rfl⟩)
end
theorem It (W:World) (n m:Nat) (hn:n<Cu.K4) (hm:m<Cu.K4):(Op.equalIn 9998 55 (.agg (fcs n)) (.agg (fcs m))).run Tryz.prog W=.ok (decide (n=m)) W:=by
 have h:=Bv W 9996 55 22 4 Ae CF (λW=>kZ) (wl n) (wl m) rfl J
 rw [G6 hn hm] at h
 exact h
theorem Kj (W:World) (a b:Bool):(Op.equalIn 9998 4 (.bool a) (.bool b)).run Tryz.prog W=.ok (a == b) W:=by
 cases a <;> cases b <;> kernel_rfl
theorem OK (W:World) (x y:Nat) (i:Bool) (u v:Nat) (j:Bool) (hx:x<Cu.K4) (hy:y<Cu.K4) (hu:u<Cu.K4) (hv:v<Cu.K4) :
  (Op.equalIn 9999 57 (.agg (Cu.pcs x y i)) (.agg (Cu.pcs u v j))).run Tryz.prog W=.ok (Cu.sameB x y i u v j) W:=by
 have hS:Tryz.prog.underlying 57=some (.struct (Tryz.prog.fieldsOf 57)):=kZ
 have hpp:Tryz.prog.stoodInHeld 57=false:=kZ
 rw [show (9999:Nat)=9998+1 from rfl,run_equalIn_struct W 9998 57 _ _ hS hpp]
 simp only [Program.fieldsOf,Am]
 have a1:∀ W,(part 55 (Cu.pcs x y i) 0).run Tryz.prog W=.ok (.agg (fcs x)) W:=λW=>by rw [Cu.part_fe,Cu.pcs_x]
 have a2:∀ W,(part 55 (Cu.pcs u v j) 0).run Tryz.prog W=.ok (.agg (fcs u)) W:=λW=>by rw [Cu.part_fe,Cu.pcs_x]
 have a3:∀ W,(part 55 (Cu.pcs x y i) 4).run Tryz.prog W=.ok (.agg (fcs y)) W:=λW=>by rw [Cu.part_fe,Cu.pcs_y]
 have a4:∀ W,(part 55 (Cu.pcs u v j) 4).run Tryz.prog W=.ok (.agg (fcs v)) W:=λW=>by rw [Cu.part_fe,Cu.pcs_y]
 have a5:∀ W,(part 4 (Cu.pcs x y i) 8).run Tryz.prog W=.ok (.bool i) W:=λW=>Cu.part_bool _ 8 i (Cu.pcs_i x y i) W
 have a6:∀ W,(part 4 (Cu.pcs u v j) 8).run Tryz.prog W=.ok (.bool j) W:=λW=>Cu.part_bool _ 8 j (Cu.pcs_i u v j) W
 have e1:∀ W,_:=λW=>It W x u hx hu
 have e2:∀ W,_:=λW=>It W y v hy hv
 have e3:∀ W,_:=λW=>Kj W i j
 unfold Cu.sameB
 generalize decide (x=u)=b1 at *
 generalize decide (y=v)=b2 at *
 generalize (i == j)=b3 at *
 cases b1 <;> cases b2 <;> cases b3 <;> simp [Op.eqFields,a1,a2,a3,a4,a5,a6,e1,e2,e3,Sem.run_bind,Sem.run_ite]
theorem KE (cs:Array Value) (o:Nat) (n:Nat) (hb:cs[o]? = some (.int .u64 (n:Int))) (W:World):(part 22 cs o).run Tryz.prog W=.ok (.int .u64 (n:Int)) W:=by
 have h1:=Tryz.isAgg22
 simp [part,h1,hb,go_sem]
theorem MT (cs:Array Value) (o:Nat) (W:World):(part 57 cs o).run Tryz.prog W=.ok (.agg (cs.extract o (o+9))) W:=by
 have h1:=Tryz.isAgg57
 have h2:=Tryz.sizeOf57
 simp [part,h1,h2,go_sem]
theorem Lx (W:World) (a b:Int):(Op.equalIn 9999 22 (.int .u64 a) (.int .u64 b)).run Tryz.prog W=.ok (decide (a=b)) W:=by
 kernel_rfl
theorem K_ (W:World) (a:MAmt) (hx:a.pt.x<Cu.K4) (hy:a.pt.y<Cu.K4):(binOp .eql 61 (.agg (cAM a).toArray) (.agg (cAM zAM).toArray)).run Tryz.prog W=.ok (.bool (El a)) W:=by
 obtain ⟨bl,v,x,y,i⟩:=a
 dsimp only at hx hy
 have hS:Tryz.prog.underlying 61=some (.struct (Tryz.prog.fieldsOf 61)):=kZ
 have hpp:Tryz.prog.stoodInHeld 61=false:=kZ
 rw [run_eql_struct,show (10000:Nat)=9999+1 from rfl,run_equalIn_struct W 9999 61 _ _ hS hpp]
 simp only [Program.fieldsOf,Jx]
 have c1:((cAM ⟨bl,v,x,y,i⟩).toArray).extract 2 (2+9)=Cu.pcs x y i:=rfl
 have c2:((cAM zAM).toArray).extract 2 (2+9)=Cu.pcs 0 0 false:=rfl
 have a1:∀ W,(part 4 (cAM ⟨bl,v,x,y,i⟩).toArray 0).run Tryz.prog W=.ok (.bool bl) W:=λW=>Cu.part_bool _ 0 bl J W
 have a2:∀ W,(part 4 (cAM zAM).toArray 0).run Tryz.prog W=.ok (.bool false) W:=λW=>Cu.part_bool _ 0 false J W
 have a3:∀ W,(part 22 (cAM ⟨bl,v,x,y,i⟩).toArray 1).run Tryz.prog W=.ok (.int .u64 (v:Int)) W:=λW=>KE _ 1 v J W
 have a4:∀ W,(part 22 (cAM zAM).toArray 1).run Tryz.prog W=.ok (.int .u64 0) W:=λW=>KE _ 1 0 J W
 have a5:∀ W,(part 57 (cAM ⟨bl,v,x,y,i⟩).toArray 2).run Tryz.prog W=.ok (.agg (Cu.pcs x y i)) W:=λW=>by rw [MT,c1]
 have a6:∀ W,(part 57 (cAM zAM).toArray 2).run Tryz.prog W=.ok (.agg (Cu.pcs 0 0 false)) W:=λW=>by rw [MT,c2]
 have e1:∀ W,_:=λW=>Cu.eql_bool_at W bl false
 have e2:∀ W,_:=λW=>Lx W (v:Int) 0
 have e3:∀ W,_:=λW=>OK W x y i 0 0 false hx hy dZ dZ
 have en:El ⟨bl,v,x,y,i⟩=((bl == false) && (decide ((v:Int)=0) && Cu.sameB x y i 0 0 false)):=by
  unfold El FD
  dsimp only
  rw [show decide (v=0)=decide ((v:Int)=0) from decide_eq_decide.2 om]
  cases bl <;> simp
 rw [en]
 generalize decide ((v:Int)=0)=b2 at *
 generalize Cu.sameB x y i 0 0 false=b3 at *
 generalize (bl == false)=b1 at *
 cases b1 <;> cases b2 <;> cases b3 <;> simp [Op.eqFields,a1,a2,a3,a4,a5,a6,e1,e2,e3,Sem.run_bind,Sem.run_ite]
theorem QC (w:World) (F:AK) (o:Oper) (x y:Operand) (a:MAmt) {yt:TypeId} (ho:o.op=.binOp .eql 61 x y yt) (hx:evF F x=.agg (cAM a).toArray) (hy:evF F y=.agg (cAM zAM).toArray) (h1:a.pt.x<Cu.K4) (h2:a.pt.y<Cu.K4):(execOp (evF F) o).run Tryz.prog w=.ok (.value (.bool (El a))) w:=by
 have g1:(eqGuard .eql 61 x y (.agg (cAM a).toArray) (.agg (cAM zAM).toArray)).run Tryz.prog w=.ok () w:=by go_simp
 have g2:=K_ w a h1 h2
 unfold execOp
 simp only [ho,hx,hy,Sem.run_bind,g1,g2,Result.andThen_ok,Sem.run_pure]
theorem Kk (w:World) (F:AK) (o:Oper) (x y:Operand) (n m:Nat) {yt:TypeId} (ho:o.op=.binOp .eql 143 x y yt) (hx:evF F x=fv n) (hy:evF F y=fv m) (hn:n<Cu.K4) (hm:m<Cu.K4):(execOp (evF F) o).run Tryz.prog w=.ok (.value (.bool (decide (n=m)))) w:=by
 have h1:=Sc.run_eqGuard_fv .eql x y n m w
 have h2:=Sc.run_eql_fv w n m hn hm
 unfold execOp
 simp only [ho,hx,hy,Sem.run_bind,h1,h2,Result.andThen_ok,Sem.run_pure]
theorem Gd (w:World) (i:MIs) (A:Option Addr) (n cp:Nat) (hn:i.range.length=n) (d1:i.amount.value<18446744073709551616∧i.amount.pt.x<Cu.K4∧i.amount.pt.y<Cu.K4) (h3:i.tokens<18446744073709551616) (h4:i.entropy.length=32) (h5:i.blind<Cu.K4) :
  AL 167 #[.agg (cIS i (.slice A n cp)).toArray] w (Ai w (.bool (DE i))):=by
 obtain ⟨kd,am,rg,tk,en,sc⟩:=i
 dsimp only at hn d1 h3 h4 h5
 have m4:(en.map bv).length=32:=by rw [List.length_map,h4]
 have hlen:(cIS ⟨kd,am,rg,tk,en,sc⟩ (.slice A n cp)).length=50:=by simp only [cIS,cAM,List.length_append,m4,F6,Cb]; rfl
 have hnul:DE ⟨kd,am,rg,tk,en,sc⟩=(El am && (decide (n=0) && (decide (tk=0) && (decide (en=z32) && decide (sc=0))))):=by unfold DE; dsimp only; rw [hn]
 refine Sy.enter (args:=[.agg (cIS ⟨kd,am,rg,tk,en,sc⟩ (.slice A n cp)).toArray]) Tryz.func167 J kL<|sC<|sM 145 (cIS ⟨kd,am,rg,tk,en,sc⟩ (.slice A n cp)).toArray (λg1=>?_) kR (λw=>An J J kZ hlen w)
 refine sP (.bool false) ?_
 have X0:XAt (rdC (Base.of w) [(g1,145,(cIS ⟨kd,am,rg,tk,en,sc⟩ (.slice A n cp)).toArray)]) g1 0 (cIS ⟨kd,am,rg,tk,en,sc⟩ (.slice A n cp)):=λi u hu=>.inr ⟨_,_,List.mem_singleton.2 J,by rw [Nat.zero_add,List.getElem?_toArray]; exact hu⟩
 have X1:XAt (rdC (Base.of w) [(g1,145,(cIS ⟨kd,am,rg,tk,en,sc⟩ (.slice A n cp)).toArray)]) g1 1 (cAM am++([.slice A n cp]++([uZ (tk:Int)]++(en.map bv++Cu.fws sc)))):=X0.right (n:=1) rfl
 have X2:XAt (rdC (Base.of w) [(g1,145,(cIS ⟨kd,am,rg,tk,en,sc⟩ (.slice A n cp)).toArray)]) g1 12 ([.slice A n cp]++([uZ (tk:Int)]++(en.map bv++Cu.fws sc))):=X1.right (n:=11) rfl
 have X3:XAt (rdC (Base.of w) [(g1,145,(cIS ⟨kd,am,rg,tk,en,sc⟩ (.slice A n cp)).toArray)]) g1 13 ([uZ (tk:Int)]++(en.map bv++Cu.fws sc)):=X2.right (n:=1) rfl
 have X4:XAt (rdC (Base.of w) [(g1,145,(cIS ⟨kd,am,rg,tk,en,sc⟩ (.slice A n cp)).toArray)]) g1 14 (en.map bv++Cu.fws sc):=X3.right (n:=1) rfl
 have X5:XAt (rdC (Base.of w) [(g1,145,(cIS ⟨kd,am,rg,tk,en,sc⟩ (.slice A n cp)).toArray)]) g1 46 (Cu.fws sc):=X4.right m4
 refine sA ?_
 obtain ⟨b1,hb1⟩:=xE (El am)
 refine sP (pT g1 1)<|sS (.agg (cAM am).toArray) (Bd (R:=[(g1,145,(cIS ⟨kd,am,rg,tk,en,sc⟩ (.slice A n cp)).toArray)]) (g:=g1) (f:=1) (k:=11) (cs:=cAM am) X1.left (λy hy=>hy) rfl J Jx)<|sP (.agg (cAM zAM).toArray)<|sS (.bool b1) (Quiet.pure (λw=>by rw [hb1]; exact QC w _ _ _ _ am J J J d1.2.1 d1.2.2))<|sp J ?_
 cases b1
 case' false =>
  refine sN<|sN<|sN<|sN<|sP (.bool false)<|sp J<|sN<|sN<|sN<|sP (.bool false)<|sp J<|sN<|sN<|sN<|sN<|sP (.bool false)<|sp J<|sN<|sN<|sN<|sN<|sP (.bool false)<|sp J<|sG<|Sy.ret ?_
  rw [hnul, ← hb1]
  exact rV (.bool false) rfl
 obtain ⟨b2,hb2⟩:=xE (decide (n=0))
 refine sP (pT g1 12)<|sS (.slice A n cp) (AH (R:=[(g1,145,(cIS ⟨kd,am,rg,tk,en,sc⟩ (.slice A n cp)).toArray)]) (g:=g1) (f:=12) X2.one (λy hy=>hy) rfl Ay)<|sP (.int .i64 (n:Int))<|sS (.bool b2) (qeq J J J hb2)<|sP (.bool b2)<|sp J ?_
 cases b2
 case' false =>
  refine sN<|sN<|sN<|sP (.bool false)<|sp J<|sN<|sN<|sN<|sN<|sP (.bool false)<|sp J<|sN<|sN<|sN<|sN<|sP (.bool false)<|sp J<|sG<|Sy.ret ?_
  rw [hnul, ← hb1, ← hb2]
  exact rV (.bool false) rfl
 obtain ⟨b3,hb3⟩:=xE (decide (tk=0))
 refine sP (pT g1 13)<|sS (uZ (tk:Int)) (AH (R:=[(g1,145,(cIS ⟨kd,am,rg,tk,en,sc⟩ (.slice A n cp)).toArray)]) (g:=g1) (f:=13) X3.one (λy hy=>hy) rfl CF)<|sS (.bool b3) (Quiet.pure (AD .eql _ _ _ .u64 _ _ _ J J J (Ab _ _ _ _ _ (by rw [hb3]; exact decide_eq_decide.2 om))))<|sP (.bool b3)<|sp J ?_
 cases b3
 case' false =>
  refine sN<|sN<|sN<|sN<|sP (.bool false)<|sp J<|sN<|sN<|sN<|sN<|sP (.bool false)<|sp J<|sG<|Sy.ret ?_
  rw [hnul, ← hb1, ← hb2, ← hb3]
  exact rV (.bool false) rfl
 obtain ⟨b4,hb4⟩:=xE (decide (en=z32))
 refine sP (pT g1 14)<|sS (.agg (en.map bv).toArray) (Bd (R:=[(g1,145,(cIS ⟨kd,am,rg,tk,en,sc⟩ (.slice A n cp)).toArray)]) (g:=g1) (f:=14) (k:=32) (cs:=en.map bv) X4.left (λy hy=>hy) m4 J DI)<|sP (.agg (z32.map bv).toArray)<|sS (.bool b4) (Quiet.pure (λw=>by rw [hb4]; exact ES w _ _ _ _ en z32 h4 J J J J))<|sP (.bool b4)<|sp J ?_
 cases b4
 case' false =>
  refine sN<|sN<|sN<|sN<|sP (.bool false)<|sp J<|sG<|Sy.ret ?_
  rw [hnul, ← hb1, ← hb2, ← hb3, ← hb4]
  exact rV (.bool false) rfl
 obtain ⟨b5,hb5⟩:=xE (decide (sc=0))
 refine sP (pT g1 46)<|sS (fv sc) (Bd (R:=[(g1,145,(cIS ⟨kd,am,rg,tk,en,sc⟩ (.slice A n cp)).toArray)]) (g:=g1) (f:=46) (k:=4) (cs:=Cu.fws sc) X5 (λy hy=>hy) rfl J Bh)<|sP (fv 0)<|sS (.bool b5) (Quiet.pure (λw=>by rw [hb5]; exact Kk w _ _ _ _ sc 0 J J J h5 dZ))<|sP (.bool b5)<|sp J<|sG<|Sy.ret ?_
 rw [hnul, ← hb1, ← hb2, ← hb3, ← hb4, ← hb5]
 exact rV (.bool b5) rfl
theorem Im (w:World) (p:MPg) (A1 A2 A3:Option Addr) (n1 c1 n2 c2 n3 c3:Nat) (k1:p.tx.length=n1) (k2:p.path.length=n2) (k3:p.script.length=n3) (h0:p.header.length=32) :
  AL 107 #[.agg (cPG p (.slice A1 n1 c1) (.slice A2 n2 c2) (.slice A3 n3 c3)).toArray] w (Ai w (.bool (DL p))):=by
 obtain ⟨hd,tx,pl,mn,pa,sq⟩:=p
 dsimp only at k1 k2 k3 h0
 have m0:(hd.map bv).length=32:=by rw [List.length_map,h0]
 have hlen:(cPG ⟨hd,tx,pl,mn,pa,sq⟩ (.slice A1 n1 c1) (.slice A2 n2 c2) (.slice A3 n3 c3)).length=37:=by simp only [cPG,List.length_append,m0]; rfl
 have hnul:DL ⟨hd,tx,pl,mn,pa,sq⟩=(decide (hd=z32) && (decide (n1=0) && (decide (pl=0) && (decide (mn=0) && (decide (n2=0) && decide (n3=0)))))):=by unfold DL; dsimp only; rw [k1,k2,k3]
 refine Sy.enter (args:=[.agg (cPG ⟨hd,tx,pl,mn,pa,sq⟩ (.slice A1 n1 c1) (.slice A2 n2 c2) (.slice A3 n3 c3)).toArray]) Tryz.func107 J kL<|sC<|sM 148 (cPG ⟨hd,tx,pl,mn,pa,sq⟩ (.slice A1 n1 c1) (.slice A2 n2 c2) (.slice A3 n3 c3)).toArray (λg1=>?_) kR (λw=>An J J kZ hlen w)
 refine sP (.bool false) ?_
 have X0:XAt (rdC (Base.of w) [(g1,148,(cPG ⟨hd,tx,pl,mn,pa,sq⟩ (.slice A1 n1 c1) (.slice A2 n2 c2) (.slice A3 n3 c3)).toArray)]) g1 0 (cPG ⟨hd,tx,pl,mn,pa,sq⟩ (.slice A1 n1 c1) (.slice A2 n2 c2) (.slice A3 n3 c3)):=λi u hu=>.inr ⟨_,_,List.mem_singleton.2 J,by rw [Nat.zero_add,List.getElem?_toArray]; exact hu⟩
 have X1:XAt (rdC (Base.of w) [(g1,148,(cPG ⟨hd,tx,pl,mn,pa,sq⟩ (.slice A1 n1 c1) (.slice A2 n2 c2) (.slice A3 n3 c3)).toArray)]) g1 32 ([.slice A1 n1 c1]++([.int .u32 (pl:Int)]++([.int .u32 (mn:Int)]++([.slice A2 n2 c2]++([.slice A3 n3 c3]))))):=X0.right m0
 have X2:XAt (rdC (Base.of w) [(g1,148,(cPG ⟨hd,tx,pl,mn,pa,sq⟩ (.slice A1 n1 c1) (.slice A2 n2 c2) (.slice A3 n3 c3)).toArray)]) g1 33 ([.int .u32 (pl:Int)]++([.int .u32 (mn:Int)]++([.slice A2 n2 c2]++([.slice A3 n3 c3])))):=X1.right (n:=1) rfl
 have X3:XAt (rdC (Base.of w) [(g1,148,(cPG ⟨hd,tx,pl,mn,pa,sq⟩ (.slice A1 n1 c1) (.slice A2 n2 c2) (.slice A3 n3 c3)).toArray)]) g1 34 ([.int .u32 (mn:Int)]++([.slice A2 n2 c2]++([.slice A3 n3 c3]))):=X2.right (n:=1) rfl
 have X4:XAt (rdC (Base.of w) [(g1,148,(cPG ⟨hd,tx,pl,mn,pa,sq⟩ (.slice A1 n1 c1) (.slice A2 n2 c2) (.slice A3 n3 c3)).toArray)]) g1 35 ([.slice A2 n2 c2]++([.slice A3 n3 c3])):=X3.right (n:=1) rfl
 have X5:XAt (rdC (Base.of w) [(g1,148,(cPG ⟨hd,tx,pl,mn,pa,sq⟩ (.slice A1 n1 c1) (.slice A2 n2 c2) (.slice A3 n3 c3)).toArray)]) g1 36 ([.slice A3 n3 c3]):=X4.right (n:=1) rfl
 refine sA ?_
 obtain ⟨b1,hb1⟩:=xE (decide (hd=z32))
 refine sP (pT g1 0)<|sS (.agg (hd.map bv).toArray) (Bd (R:=[(g1,148,(cPG ⟨hd,tx,pl,mn,pa,sq⟩ (.slice A1 n1 c1) (.slice A2 n2 c2) (.slice A3 n3 c3)).toArray)]) (g:=g1) (f:=0) (k:=32) (cs:=hd.map bv) X0.left (λy hy=>hy) m0 J DI)<|sP (.agg (z32.map bv).toArray)<|sS (.bool b1) (Quiet.pure (λw=>by rw [hb1]; exact ES w _ _ _ _ hd z32 h0 J J J J))<|sp J ?_
 cases b1
 case' false =>
  refine sN<|sN<|sN<|sN<|sP (.bool false)<|sp J<|sN<|sN<|sN<|sP (.bool false)<|sp J<|sN<|sN<|sN<|sP (.bool false)<|sp J<|sN<|sN<|sN<|sN<|sP (.bool false)<|sp J<|sN<|sN<|sN<|sN<|sP (.bool false)<|sp J<|sG<|Sy.ret ?_
  rw [hnul, ← hb1]
  exact rV (.bool false) rfl
 obtain ⟨b2,hb2⟩:=xE (decide (n1=0))
 refine sP (pT g1 32)<|sS (.slice A1 n1 c1) (AH (R:=[(g1,148,(cPG ⟨hd,tx,pl,mn,pa,sq⟩ (.slice A1 n1 c1) (.slice A2 n2 c2) (.slice A3 n3 c3)).toArray)]) (g:=g1) (f:=32) X1.one (λy hy=>hy) rfl Ay)<|sP (.int .i64 (n1:Int))<|sS (.bool b2) (qeq J J J hb2)<|sP (.bool b2)<|sp J ?_
 cases b2
 case' false =>
  refine sN<|sN<|sN<|sP (.bool false)<|sp J<|sN<|sN<|sN<|sP (.bool false)<|sp J<|sN<|sN<|sN<|sN<|sP (.bool false)<|sp J<|sN<|sN<|sN<|sN<|sP (.bool false)<|sp J<|sG<|Sy.ret ?_
  rw [hnul, ← hb1, ← hb2]
  exact rV (.bool false) rfl
 obtain ⟨b3,hb3⟩:=xE (decide (pl=0))
 refine sP (pT g1 33)<|sS (.int .u32 (pl:Int)) (AH (R:=[(g1,148,(cPG ⟨hd,tx,pl,mn,pa,sq⟩ (.slice A1 n1 c1) (.slice A2 n2 c2) (.slice A3 n3 c3)).toArray)]) (g:=g1) (f:=33) X2.one (λy hy=>hy) rfl Ff)<|sS (.bool b3) (Quiet.pure (AD .eql _ _ _ .u32 _ _ _ J J J (Ab _ _ _ _ _ (by rw [hb3]; exact decide_eq_decide.2 om))))<|sP (.bool b3)<|sp J ?_
 cases b3
 case' false =>
  refine sN<|sN<|sN<|sP (.bool false)<|sp J<|sN<|sN<|sN<|sN<|sP (.bool false)<|sp J<|sN<|sN<|sN<|sN<|sP (.bool false)<|sp J<|sG<|Sy.ret ?_
  rw [hnul, ← hb1, ← hb2, ← hb3]
  exact rV (.bool false) rfl
 obtain ⟨b4,hb4⟩:=xE (decide (mn=0))
 refine sP (pT g1 34)<|sS (.int .u32 (mn:Int)) (AH (R:=[(g1,148,(cPG ⟨hd,tx,pl,mn,pa,sq⟩ (.slice A1 n1 c1) (.slice A2 n2 c2) (.slice A3 n3 c3)).toArray)]) (g:=g1) (f:=34) X3.one (λy hy=>hy) rfl Ff)<|sS (.bool b4) (Quiet.pure (AD .eql _ _ _ .u32 _ _ _ J J J (Ab _ _ _ _ _ (by rw [hb4]; exact decide_eq_decide.2 om))))<|sP (.bool b4)<|sp J ?_
 cases b4
 case' false =>
  refine sN<|sN<|sN<|sN<|sP (.bool false)<|sp J<|sN<|sN<|sN<|sN<|sP (.bool false)<|sp J<|sG<|Sy.ret ?_
  rw [hnul, ← hb1, ← hb2, ← hb3, ← hb4]
  exact rV (.bool false) rfl
 obtain ⟨b5,hb5⟩:=xE (decide (n2=0))
 refine sP (pT g1 35)<|sS (.slice A2 n2 c2) (AH (R:=[(g1,148,(cPG ⟨hd,tx,pl,mn,pa,sq⟩ (.slice A1 n1 c1) (.slice A2 n2 c2) (.slice A3 n3 c3)).toArray)]) (g:=g1) (f:=35) X4.one (λy hy=>hy) rfl Ck)<|sP (.int .i64 (n2:Int))<|sS (.bool b5) (qeq J J J hb5)<|sP (.bool b5)<|sp J ?_
 cases b5
 case' false =>
  refine sN<|sN<|sN<|sN<|sP (.bool false)<|sp J<|sG<|Sy.ret ?_
  rw [hnul, ← hb1, ← hb2, ← hb3, ← hb4, ← hb5]
  exact rV (.bool false) rfl
 obtain ⟨b6,hb6⟩:=xE (decide (n3=0))
 refine sP (pT g1 36)<|sS (.slice A3 n3 c3) (AH (R:=[(g1,148,(cPG ⟨hd,tx,pl,mn,pa,sq⟩ (.slice A1 n1 c1) (.slice A2 n2 c2) (.slice A3 n3 c3)).toArray)]) (g:=g1) (f:=36) X5.one (λy hy=>hy) rfl Ay)<|sP (.int .i64 (n3:Int))<|sS (.bool b6) (qeq J J J hb6)<|sP (.bool b6)<|sp J<|sG<|Sy.ret ?_
 rw [hnul, ← hb1, ← hb2, ← hb3, ← hb4, ← hb5, ← hb6]
 exact rV (.bool b6) rfl
theorem Ow:DK 168 4 O2 JV Dd (λ_=>32):=λw0 gc gw gx f bad s R b cs n hx _ hc hb hl w hw=>by
 obtain ⟨rfl,h1⟩:=hx
 obtain ⟨ok,hok⟩:=xE (JV n)
 obtain ⟨E,hE⟩:=xE (Dd n)
 have hEl:E.length=32:=by rw [hE]; exact AN _
 have hEm:(E.map bv).length=32:=by rw [List.length_map,hEl]
 have hp:n%Sc.pM<Cu.K4:=Nat.lt_trans (Nat.mod_lt _ dZ) dZ
 rw [← hok, ← hE]
 refine Sy.enterT (args:=[ptr gc,pT gx f]) hw Tryz.func168 J kL ?_
 have ld:∀ {F:AK} {L:AA} {o:Oper} {x:Operand},(∀ y∈R,y∈L)→o.op=.load 143 x→evF F x=pT gx f→Quiet Tryz.prog w0.inn F L o (fv n):=λhR ho hx=>Bd (R:=R) (cs:=Cu.fws n) hc hR J ho Bh hx
 refine Sy.seq<|Sy.regionD (λ_=>false) kR<|sa 0 J J<|sa 1 J J<|sD 2 J (fv n) (ld Ar J J)<|sD 3 J (fv (n%Sc.pM)) (qf (λw=>Sc.norm_any w n h1))<|sa 4 J J<|sa 5 J J<|sD 6 J (fv n) (ld Ar J J)<|sv 7 J (.bool ok) (λw=>by rw [hok]; exact Kk w _ _ _ _ (n%Sc.pM) n J J J hp h1)<|sz 8 J J<|sE<|sB<|sp J<|sp J<|sS (fv n) (ld Ar J J)<|sS (.agg (E.map bv).toArray) (qf (λw=>by rw [hE]; exact Sc.bytes_any w n h1))<|sM 36 ((List.replicate 32 (0:UInt8)).map bv).toArray (λg4=>?_)
 refine Sy.permS List.perm_append_comm<|sw 0 J (E.map bv).toArray (Writes.row 36 (E.map bv) 32 _ _ J kR kR kR hEm kZ (Bw E))<|Sy.permS (M:=CWS gc gw bad s (R++[(g4,36,(E.map bv).toArray)])) (permB.trans (List.Perm.of_eq eqCW))<|sA<|sp J<|sP (.slice (pA g4) 32 32)<|Sy.callT (λw hw=>PA w0.inn gc gw bad s (R++[(g4,36,(E.map bv).toArray)]) b E _ ((FM CM).byt hEl dZ) hb (by rw [hEl]; omega) w hw) (λu M hM=>?_)
 obtain ⟨s1,bad1,b1,q1,q2,rfl⟩:=hM
 rw [hEl] at q1
 refine sG<|Sy.seq<|sC<|sp J<|sS (.bool false) (qg (λw hw=>CX w0.inn gc _ _ (List.mem_cons_self ..) w hw))<|sG<|sU<|Sy.skip<|Sy.then_<|Sy.region<|sp J<|sp J<|Sy.callT (λw hw=>Bt w0.inn gc gw bad1 ok s1 (R++[(g4,36,(E.map bv).toArray)]) w hw) (λu M hM=>?_)
 subst hM
 refine Sy.nil ?_
 have q:=q1.then_ (Wrote.must ok bad1 b1)
 rw [Bool.true_and,List.append_nil] at q
 exact Sy.retT0 J (CWS gc gw (bad1 || !ok) s1 R) (λ_ h=>C1 h) (λ_=>⟨s1,bad1 || !ok,b1,q,q2,rfl⟩)
theorem Ox:B4 168 4 (Cu.fws 0) O2 Nd:=λw0 gc gr gx f tx A Z sl s R S hS hA he hl hv w hw=>by
 obtain ⟨E,hE⟩:=xE (Dd 0)
 have hEl:E.length=32:=by rw [hE]; exact AN _
 have hEm:(E.map bv).length=32:=by rw [List.length_map,hEl]
 refine Sy.enterT (args:=[ptr gc,pT gx f]) hw Tryz.func168 J kL ?_
 have ld:∀ {F:AK} {o:Oper} {x':Operand},o.op=.load 143 x'→evF F x'=pT gx f→Quiet Tryz.prog w0.inn F (CRS gc gr gx tx (A++(Cu.fws 0++Z)) sl s.e R) o (fv 0):=λho hx=>Quiet.mid 1 gx f 4 tx 143 (A++(Cu.fws 0++Z)) (Cu.fws 0) _ _ ho hx J Bh J kR (Ca hA J) (by rw [List.length_append,List.length_append,hA,F6]; omega)
 refine Sy.seq<|Sy.regionD (λ_=>false) kR<|sa 0 J J<|sa 1 J J<|sD 2 J (fv 0) (ld J J)<|sD 3 J (fv (0%Sc.pM)) (qf (λw=>Sc.norm_any w 0 dZ))<|sa 4 J J<|sa 5 J J<|sD 6 J (fv 0) (ld J J)<|sv 7 J (.bool true) (λw=>Kk w _ _ _ _ 0 0 J J J dZ dZ)<|sz 8 J J<|sE<|sB<|sp J<|sp J<|sS (fv 0) (ld J J)<|sS (.agg (E.map bv).toArray) (qf (λw=>by rw [hE]; exact Sc.bytes_any w 0 dZ))<|sM 36 ((List.replicate 32 (0:UInt8)).map bv).toArray (λg4=>?_)
 refine Sy.permS List.perm_append_comm<|sw 0 J ([]++(E.map bv++[])).toArray (by rw [List.nil_append,List.append_nil]; exact Writes.row 36 (E.map bv) 32 _ _ J kR kR kR hEm kZ (Bw E))<|sA<|sp J<|sP (.slice (pA g4) 32 32) ?_
 have p4:((g4,36,([]++(E.map bv++[])).toArray)::CRS gc gr gx tx (A++(Cu.fws 0++Z)) sl s.e R).Perm (CRS gc gr g4 36 ([]++(E.map bv++[])) sl s.e ((gx,tx,(A++(Cu.fws 0++Z)).toArray)::R)):=PL
 refine Sy.permS p4<|Sy.callT (λw hw=>PC 32 dZ dZ w0.inn gc gr g4 0 36 [] [] E hEl sl s ((gx,tx,(A++(Cu.fws 0++Z)).toArray)::R) S (λb h=>List.mem_cons_of_mem _ (hS b h)) J he hl hv w hw) (λu M hM=>?_)
 obtain ⟨x,s1,sl1,cs1,N1,a1,a2,a3,⟨rfl,a4⟩,a5,a6,a7,rfl⟩:=hM
 obtain ⟨m,hm⟩:=xE ((Sc.readS x).1)
 obtain ⟨ok,hok⟩:=xE ((Sc.readS x).2)
 have hmK:m<Cu.K4:=by
  rw [hm]
  unfold Sc.readS
  split
  ·exact Bo x a4
  ·show 0<Cu.K4; decide
 refine sG<|Sy.seq<|sC<|sp J<|sS (.bool true) (qg (λw hw=>CL w0.inn gc gr _ _ (List.mem_cons_self ..) w hw))<|sG<|sT<|Sy.region<|sp J<|sS (.agg (x.map bv).toArray) (Quiet.mid 1 g4 0 32 36 36 ([]++(x.map bv++[])) (x.map bv) _ _ J kR J I4 J kR (Ca J (by rw [List.length_map,a4])) (by simp only [List.length_append,List.length_map,List.length_nil]; omega))<|sS (.tuple #[fv m,.bool ok]) (qf (λw=>by rw [hm,hok]; exact Sc.read_any w x a4))<|sp J<|sp J<|sp J<|sp J<|sw 3 J (A++(Cu.fws m++Z)).toArray (wMd 143 A (Cu.fws 0) (Cu.fws m) Z 4 f _ _ J kR kR kR hA J J (F5 m))<|sp J<|Sy.nil<|Sy.then_ ?_
 obtain ⟨e2,he2⟩:=xE (if ok=true then s1.e else if s1.e=0 then 120 else s1.e)
 have hA2:After Nd s m ⟨s1.rest,e2⟩:=a1.bind (by
  rw [← hm, ← hok]
  cases ok
  ·exact After.mustN m (by show e2≠0; rw [he2,if_neg dZ]; split <;> omega)
  ·have e:(⟨s1.rest,e2⟩:RS)=s1:=by rw [he2,if_pos J]
   rw [e]
   exact After.ret m s1)
 have he22:e2≤200:=by rw [he2]; split; exact a5; split <;> omega
 have p5:(CRS gc gr g4 36 ([]++(x.map bv++[])) sl1 s1.e ((gx,tx,(A++(Cu.fws m++Z)).toArray)::(R++N1))).Perm (CRN gc gr sl1 s1.e ((g4,36,([]++(x.map bv++[])).toArray)::((gx,tx,(A++(Cu.fws m++Z)).toArray)::(R++N1)))):=BU
 refine Sy.region<|sp J<|sp J<|Sy.permS p5<|Sy.callT (λw hw=>C5 w0.inn gc gr sl1 s1.e a5 ((g4,36,([]++(x.map bv++[])).toArray)::((gx,tx,(A++(Cu.fws m++Z)).toArray)::(R++N1))) ok w hw) (λu M hM=>?_)
 subst hM
 rw [← he2]
 refine Sy.nil ?_
 exact Sy.retT0 J (CRS gc gr gx tx (A++(Cu.fws m++Z)) sl1 e2 (R++N1)) (λw h=>Sy.St.parts (ls:=[[(gc,134,#[.pointer none,ptr gr,.bool false])],[(gr,253,#[sl1,.int .i64 (e2:Int)])],[(g4,36,([]++(x.map bv++[])).toArray)],[(gx,tx,(A++(Cu.fws m++Z)).toArray)],R++N1]) (ms:=[[(gc,134,#[.pointer none,ptr gr,.bool false])],[(gx,tx,(A++(Cu.fws m++Z)).toArray)],[(gr,253,#[sl1,.int .i64 (e2:Int)])],R++N1]) [[(g4,36,([]++(x.map bv++[])).toArray)]] [0,3,1,4,2] kZ (by rfl) (by simp) (by simp) h) (λ_=>⟨m,⟨s1.rest,e2⟩,sl1,Cu.fws m,N1,hA2,rfl,F5 m,⟨rfl,hmK⟩,he22,a6,a7,rfl⟩)
theorem Rn:IK 106 50 D4 C4 Dq DH:=λw0 gc gw gx f bad s R b cs x hx _ hc hb hl w hw=>by
 obtain ⟨z,am,rg,tk,en,sc⟩:=x
 obtain ⟨vr,rfl,d1,h2,h3,h4,h5⟩:=hx
 dsimp only at d1 h2 h3 h4 h5
 unfold DH at hl
 dsimp only at hl
 have m4:(en.map bv).length=32:=by rw [List.length_map,h4]
 have hlen:(cIS ⟨z,am,rg,tk,en,sc⟩ vr).length=50:=by simp only [cIS,cAM,List.length_append,m4,F6,Cb]; rfl
 have c0:OwnAt R gx f ([.int .i64 z]++(cAM am++([vr]++([uZ (tk:Int)]++(en.map bv++Cu.fws sc))))):=hc
 have c1:OwnAt R gx (f+1) (cAM am++([vr]++([uZ (tk:Int)]++(en.map bv++Cu.fws sc)))):=c0.right (n:=1) rfl
 have c2:OwnAt R gx (f+12) ([vr]++([uZ (tk:Int)]++(en.map bv++Cu.fws sc))):=by have q:=c1.right (n:=11) rfl; rwa [Nat.add_assoc] at q
 have c3:OwnAt R gx (f+13) ([uZ (tk:Int)]++(en.map bv++Cu.fws sc)):=c2.right (n:=1) rfl
 have c4:OwnAt R gx (f+14) (en.map bv++Cu.fws sc):=c3.right (n:=1) rfl
 have c5:OwnAt R gx (f+46) (Cu.fws sc):=by have q:=c4.right m4; rwa [Nat.add_assoc] at q
 have X0:rdC w0.inn R gx f (.int .i64 z):=(c0.at w0.inn).one
 refine Sy.enterT (args:=[ptr gc,pT gx f]) hw Tryz.func106 J kL<|sC<|sp J<|sp J<|sp J<|sP (pT gx f)<|Sy.callT (λw hw=>Fy w0.inn gc gw gx f bad s R b z X0 hb om w hw) (λu M hM=>?_)
 obtain ⟨s1,bad1,b1,q1,p1,rfl⟩:=hM
 have l1:b1.length≤b.length+1:=q1.len
 refine sA<|sp J<|sp J<|sP (pT gx f)<|sS (.int .i64 z) (AH (R:=R) X0 Ar J uy3)<|sG<|Sy.block<|Sy.seq<|Sy.block ?_
 by_cases h0:z=0
 ·subst h0
  obtain ⟨A,n,cp,rfl,k2,k3,k4,k5⟩:=h2
  obtain ⟨ok,hok⟩:=xE (DE ⟨0,am,rg,tk,en,sc⟩)
  refine Sy.seq<|Sy.block<|Sy.block<|Sy.seq<|Sy.block<|Sy.seq<|Sy.seq<|sC<|sP (.bool true)<|sp J<|sG<|sT<|Sy.exit<|Sy.then_exit<|Sy.then_exit<|Sy.in_exit<|sB<|sp J<|sp J<|sp J<|sS (.agg (cIS ⟨0,am,rg,tk,en,sc⟩ (.slice A n cp)).toArray) (Bd (R:=R) (cs:=cIS ⟨0,am,rg,tk,en,sc⟩ (.slice A n cp)) (c0.at w0.inn) Ar hlen J E9)<|sS (.bool ok) (qg (λw _=>by rw [hok]; exact Gd w ⟨0,am,rg,tk,en,sc⟩ A n cp k2 d1 h3 h4 h5))<|Sy.callT (λw hw=>Bt w0.inn gc gw bad1 ok s1 R w hw) (λu M hM=>?_)
  subst hM
  refine sG<|Sy.exit<|Sy.in_pass (by decide)<|Sy.in_pass (by decide)<|Sy.then_exit<|Sy.in_pass (by decide)<|Sy.then_exit<|Sy.in_exit ?_
  have q:=(q1.then_ (Wrote.must ok bad1 b1)).le (k':=DH ⟨0,am,rg,tk,en,sc⟩) (by unfold DH; dsimp only; omega)
  have e:C4 ⟨0,am,rg,tk,en,sc⟩=(okO 0 && ok):=by rw [hok]; rfl
  exact Sy.retT0 J (CWS gc gw (bad1 || !ok) s1 R) (λ_ h=>h) (λ_=>⟨s1,bad1 || !ok,b1,by rw [e]; exact q,p1,rfl⟩)
 by_cases hk:z=1∨z=2
 ·refine Sy.seq ?_
  refine De [(0,ptr gc),(1,pT gx f)] (CWS gc gw bad1 s1 R) ?_ ?_
  ·clear hl X0 c0 q1 hc hlen h0
   rcases hk with rfl|rfl
   ·refine Sy.block<|Sy.block<|Sy.seq<|Sy.block<|Sy.seq<|Sy.seq<|sC ?_
    refine sP (.bool false)<|sp J<|sG<|sU<|Sy.skip<|Sy.then_<|Sy.seq<|sC<|sP (.bool true)<|sp J<|sG<|sT<|Sy.exit<|Sy.then_exit<|Sy.then_exit<|Sy.in_pass (by decide)<|Sy.then_exit<|Sy.in_exit<|Sy.in_ ?_
    exact BK ac2 (λ_ h=>h)
   ·refine Sy.block<|Sy.block<|Sy.seq<|Sy.block<|Sy.seq<|Sy.seq<|sC ?_
    refine sP (.bool false)<|sp J<|sG<|sU<|Sy.skip<|Sy.then_<|Sy.seq<|sC<|sP (.bool false)<|sp J<|sG<|sU<|Sy.skip<|Sy.then_<|sC<|sP (.bool true)<|sp J<|sG<|sT<|Sy.exit<|Sy.then_exit<|Sy.in_pass (by decide)<|Sy.then_exit<|Sy.in_pass (by decide)<|Sy.in_exit ?_
    exact BK ac2 (λ_ h=>h)
  refine Sy.then_<|Sy.seq<|sC<|sp J<|sp J<|sp J<|sP (pT gx (f+1))<|Sy.callT (λw hw=>Kx w0.inn gc gw gx (f+1) bad1 s1 R b1 (cAM am) am ⟨rfl,d1⟩ rfl c1.left p1 (by show _+34≤_; omega) w hw) (λu M hM=>?_)
  obtain ⟨s2,bad2,b2,q2,p2,rfl⟩:=hM
  have l2:b2.length≤b1.length+34:=q2.len
  refine sA<|sp J<|sp J<|sp J<|sP (pT gx (f+12))<|Sy.callT (λw hw=>Ee w0.inn gc gw gx (f+12) bad2 s2 R b2 rg vr 6000 dZ h2 (c2.at w0.inn).one p2 om w hw) (λu M hM=>?_)
  obtain ⟨s3,bad3,b3,q3,p3,rfl⟩:=hM
  have l3:b3.length≤b2.length+(9+rg.length):=q3.len
  refine sA<|sp J<|sp J<|sp J<|sP (pT gx (f+13))<|Sy.callT (λw hw=>H2 w0.inn gc gw gx (f+13) bad3 s3 R b3 tk h3 (c3.at w0.inn).one p3 om w hw) (λu M hM=>?_)
  obtain ⟨s4,bad4,b4,q4,p4,rfl⟩:=hM
  have l4:b4.length≤b3.length+8:=q4.len
  refine sA<|sp J<|sp J<|sp J<|sP (pT gx (f+14))<|Sy.callT (λw hw=>ED w0.inn gc gw gx (f+14) bad4 s4 R b4 en h4 (c4.at w0.inn).left p4 om w hw) (λu M hM=>?_)
  obtain ⟨s5,bad5,b5,q5,p5,rfl⟩:=hM
  have l5:b5.length≤b4.length+32:=q5.len
  refine Sy.nil<|Sy.then_<|Sy.region<|sp J<|sp J<|sp J<|sP (pT gx (f+46))<|Sy.callT (λw hw=>Ow w0.inn gc gw gx (f+46) bad5 s5 R b5 (Cu.fws sc) sc ⟨rfl,h5⟩ rfl (c5.at w0.inn) p5 (by show _+32≤_; omega) w hw) (λu M hM=>?_)
  obtain ⟨s6,bad6,b6,q6,p6,rfl⟩:=hM
  have l6:b6.length≤b5.length+32:=q6.len
  refine Sy.nil<|Sy.then_<|Sy.exit<|Sy.in_pass (by decide)<|Sy.then_exit<|Sy.in_exit ?_
  have q:=q1.then_ (q2.then_ (q3.then_ (q4.then_ (q5.then_ q6))))
  have e1:okO z=true:=by rcases hk with rfl|rfl <;> rfl
  have e2:C4 ⟨z,am,rg,tk,en,sc⟩=Iq ⟨z,am,rg,tk,en,sc⟩:=by unfold C4; rw [if_neg h0,if_pos hk]
  have e3:Dq ⟨z,am,rg,tk,en,sc⟩=[CZ z]++IG ⟨z,am,rg,tk,en,sc⟩:=by unfold Dq; rw [if_neg h0]
  rw [e1,Bool.true_and,Bool.true_and,Bool.true_and] at q
  exact Sy.retT0 J (CWS gc gw bad6 s6 R) (λ_ h=>h) (λ_=>⟨s6,bad6,b6,by rw [e2,e3]; exact q,p6,rfl⟩)
 refine Sy.seq<|Sy.block<|Sy.block<|Sy.seq<|Sy.block<|Sy.seq<|Sy.seq<|sC<|sS (.bool false) (Quiet.pure (AD .eql _ _ _ .i64 _ _ _ J J J (Ab _ _ _ _ _ (decide_eq_false (λe=>h0 e)))))<|sp J<|sG<|sU<|Sy.skip<|Sy.then_<|Sy.seq<|sC<|sS (.bool false) (Quiet.pure (AD .eql _ _ _ .i64 _ _ _ J J J (Ab _ _ _ _ _ (decide_eq_false (λe=>hk (.inl e))))))<|sp J<|sG<|sU<|Sy.skip<|Sy.then_<|sC<|sS (.bool false) (Quiet.pure (AD .eql _ _ _ .i64 _ _ _ J J J (Ab _ _ _ _ _ (decide_eq_false (λe=>hk (.inr e))))))<|sp J<|sG<|sU<|Sy.skip<|Sy.then_<|Sy.exit<|Sy.in_pass (by decide)<|Sy.then_exit<|Sy.in_pass (by decide)<|Sy.in_pass dZ ?_
 refine Sy.then_exit<|Sy.in_exit<|sB<|sp J<|Sy.callT (λw hw=>Bt w0.inn gc gw bad1 false s1 R w hw) (λu M hM=>?_)
 subst hM
 refine sG<|Sy.exit<|Sy.in_exit ?_
 have hno:C4 ⟨z,am,rg,tk,en,sc⟩=false:=by unfold C4; rw [if_neg h0,if_neg hk]
 exact Sy.retT0 J (CWS gc gw (bad1 || !false) s1 R) (λ_ h=>h) (λ_=>⟨s1,bad1 || !false,b1,⟨by rw [hno]; cases bad1 <;> cases bad <;> rfl,λh=>(by cases bad1 <;> cases h),by unfold DH; dsimp only; omega⟩,p1,rfl⟩)
theorem RY:DE zIS=true:=dZ
theorem Ix:zAM.value<18446744073709551616∧zAM.pt.x<Cu.K4∧zAM.pt.y<Cu.K4:=⟨(show (0:Nat)<18446744073709551616 by decide),(show 0<Cu.K4 by decide),(show 0<Cu.K4 by decide)⟩
theorem Ro:B4 106 50 ([Value.int .i64 0]++(([Value.bool false]++([Value.int .u64 0]++lPT ⟨0,0,false⟩))++([Value.slice none 0 0]++([Value.int .u64 0]++(Z32++(Cu.fws 0)))))) D4 Gq:=λw0 gc gr gx f tx A Z sl s R S hS hA he hl hv w hw=>by
 refine Sy.enterT (args:=[ptr gc,pT gx f]) hw Tryz.func106 J kL<|sC<|sp J<|sp J<|sp J<|sP (pT gx f)<|Sy.callT (λw hw=>G0 w0.inn gc gr gx f tx A (([Value.bool false]++([Value.int .u64 0]++lPT ⟨0,0,false⟩))++([Value.slice none 0 0]++([Value.int .u64 0]++(Z32++(Cu.fws 0++Z))))) sl s R S hS hA he hl hv w (by simpa only [List.append_assoc] using hw)) (λu M hM=>?_)
 obtain ⟨x1,s1,sl1,cs1,N1,a1,n1,o1,rfl,e1,h1,y1,rfl⟩:=hM
 have g1:s1.rest.length≤s.rest.length:=h1
 have A1:(A++[Value.int .i64 x1]).length=f+1:=by rw [List.length_append,hA,n1]
 refine sA<|sp J<|sp J<|sP (pT gx f)<|sS (.int .i64 x1) (Quiet.cell 1 gx f tx 3 (A++([Value.int .i64 x1]++(([Value.bool false]++([Value.int .u64 0]++lPT ⟨0,0,false⟩))++([Value.slice none 0 0]++([Value.int .u64 0]++(Z32++(Cu.fws 0++Z))))))).toArray _ _ J kR J uy3 J _ (by rw [List.getElem?_toArray,List.getElem?_append_right om,hA,Nat.sub_self]; rfl)) ?_
 refine sG<|Sy.block<|Sy.seq<|Sy.block ?_
 have hrp1:∀ N,D4 (rdB N) ([Value.int .i64 x1]++(([Value.bool false]++([Value.int .u64 0]++lPT ⟨0,0,false⟩))++([Value.slice none 0 0]++([Value.int .u64 0]++(Z32++(Cu.fws 0)))))) ⟨x1,zAM,[],0,z32,0⟩:=λN=>⟨_,rfl,Ix,BytR.nil _,(show (0:Nat)<18446744073709551616 by decide),rfl,(show 0<Cu.K4 by decide)⟩
 have hcs:A++(([Value.int .i64 x1]++(([Value.bool false]++([Value.int .u64 0]++lPT ⟨0,0,false⟩))++([Value.slice none 0 0]++([Value.int .u64 0]++(Z32++(Cu.fws 0))))))++Z)=(A++([Value.int .i64 x1]++(([Value.bool false]++([Value.int .u64 0]++lPT ⟨0,0,false⟩))++([Value.slice none 0 0]++([Value.int .u64 0]++(Z32++(Cu.fws 0++Z))))))):=by simp only [List.append_assoc]
 have p5:(CRS gc gr gx tx (A++([Value.int .i64 x1]++(([Value.bool false]++([Value.int .u64 0]++lPT ⟨0,0,false⟩))++([Value.slice none 0 0]++([Value.int .u64 0]++(Z32++(Cu.fws 0++Z))))))) sl1 s1.e (R++N1)).Perm (CRN gc gr sl1 s1.e ((gx,tx,(A++([Value.int .i64 x1]++(([Value.bool false]++([Value.int .u64 0]++lPT ⟨0,0,false⟩))++([Value.slice none 0 0]++([Value.int .u64 0]++(Z32++(Cu.fws 0++Z))))))).toArray)::(R++N1))):=BU
 by_cases h0:x1=0
 ·subst h0
  refine Sy.seq<|Sy.block<|Sy.block<|Sy.seq<|Sy.block<|Sy.seq<|Sy.seq<|sC<|sP (.bool true)<|sp J<|sG<|sT<|Sy.exit<|Sy.then_exit<|Sy.then_exit<|Sy.in_exit<|sB<|sp J<|sp J<|sp J<|sS (.agg (([Value.int .i64 0]++(([Value.bool false]++([Value.int .u64 0]++lPT ⟨0,0,false⟩))++([Value.slice none 0 0]++([Value.int .u64 0]++(Z32++(Cu.fws 0))))))).toArray) (Quiet.mid 1 gx f 50 tx 145 (A++([Value.int .i64 0]++(([Value.bool false]++([Value.int .u64 0]++lPT ⟨0,0,false⟩))++([Value.slice none 0 0]++([Value.int .u64 0]++(Z32++(Cu.fws 0++Z))))))) ([Value.int .i64 0]++(([Value.bool false]++([Value.int .u64 0]++lPT ⟨0,0,false⟩))++([Value.slice none 0 0]++([Value.int .u64 0]++(Z32++(Cu.fws 0)))))) _ _ J kR J E9 J kR (by rw [← hcs]; exact Ca hA J) (by rw [← hcs,List.length_append,List.length_append,hA]; show f+50≤f+(50+_); omega))<|sS (.bool true) (qg (λw _=>by have q:=Gd w zIS none 0 0 J Ix (show (0:Nat)<18446744073709551616 by decide) rfl (show 0<Cu.K4 by decide); rw [RY] at q; exact q))<|Sy.permS p5<|Sy.callT (λw hw=>C5 w0.inn gc gr sl1 s1.e e1 ((gx,tx,(A++([Value.int .i64 0]++(([Value.bool false]++([Value.int .u64 0]++lPT ⟨0,0,false⟩))++([Value.slice none 0 0]++([Value.int .u64 0]++(Z32++(Cu.fws 0++Z))))))).toArray)::(R++N1)) true w hw) (λu M hM=>?_)
  subst hM
  rw [if_pos J]
  refine Sy.permS (M:=CRS gc gr gx tx (A++([Value.int .i64 0]++(([Value.bool false]++([Value.int .u64 0]++lPT ⟨0,0,false⟩))++([Value.slice none 0 0]++([Value.int .u64 0]++(Z32++(Cu.fws 0++Z))))))) sl1 s1.e (R++N1)) BU<|sG<|Sy.exit<|Sy.in_pass (by decide)<|Sy.in_pass (by decide)<|Sy.then_exit<|Sy.in_pass (by decide)<|Sy.then_exit<|Sy.in_exit ?_
  have hAf:After Gq s ⟨0,zAM,[],0,z32,0⟩ s1:=by
   have q:After (AJ CY λk=>if k=0 then BO zIS else AJ (BJ (decide (k=1∨k=2))) λ_=>Ke k) s zIS s1:=a1.bind (by rw [if_pos J]; exact After.ret _ _)
   exact q
  exact Sy.retT0 J (CRS gc gr gx tx (A++(([Value.int .i64 0]++(([Value.bool false]++([Value.int .u64 0]++lPT ⟨0,0,false⟩))++([Value.slice none 0 0]++([Value.int .u64 0]++(Z32++(Cu.fws 0))))))++Z)) sl1 s1.e (R++N1)) (λ_ h=>by rw [hcs]; exact h) (λ_=>⟨_,s1,sl1,_,N1,hAf,rfl,Fv (hrp1 N1),hrp1 N1,e1,h1,y1,rfl⟩)
 by_cases hk:x1=1∨x1=2
 ·refine Sy.seq ?_
  refine De [(0,ptr gc),(1,pT gx f)] (CRS gc gr gx tx (A++([Value.int .i64 x1]++(([Value.bool false]++([Value.int .u64 0]++lPT ⟨0,0,false⟩))++([Value.slice none 0 0]++([Value.int .u64 0]++(Z32++(Cu.fws 0++Z))))))) sl1 s1.e (R++N1)) ?_ ?_
  ·clear a1 n1 o1 A1 h0 hrp1 hcs p5
   rcases hk with rfl|rfl
   ·refine Sy.block<|Sy.block<|Sy.seq<|Sy.block<|Sy.seq<|Sy.seq<|sC ?_
    refine sP (.bool false)<|sp J<|sG<|sU<|Sy.skip<|Sy.then_<|Sy.seq<|sC<|sP (.bool true)<|sp J<|sG<|sT<|Sy.exit<|Sy.then_exit<|Sy.then_exit<|Sy.in_pass (by decide)<|Sy.then_exit<|Sy.in_exit<|Sy.in_ ?_
    exact BK ac2 (λ_ h=>h)
   ·refine Sy.block<|Sy.block<|Sy.seq<|Sy.block<|Sy.seq<|Sy.seq<|sC ?_
    refine sP (.bool false)<|sp J<|sG<|sU<|Sy.skip<|Sy.then_<|Sy.seq<|sC<|sP (.bool false)<|sp J<|sG<|sU<|Sy.skip<|Sy.then_<|sC<|sP (.bool true)<|sp J<|sG<|sT<|Sy.exit<|Sy.then_exit<|Sy.in_pass (by decide)<|Sy.then_exit<|Sy.in_pass (by decide)<|Sy.in_exit ?_
    exact BK ac2 (λ_ h=>h)
  refine Sy.then_<|Sy.seq<|sC<|sp J<|sp J<|sp J<|sP (pT gx (f+1))<|Sy.callT (λw hw=>Ky w0.inn gc gr gx (f+1) tx (A++[Value.int .i64 x1]) ([Value.slice none 0 0]++([Value.int .u64 0]++(Z32++(Cu.fws 0++Z)))) sl1 s1 (R++N1) S (λb h=>List.mem_append_left _ (hS b h)) A1 e1 (Nat.le_trans g1 hl) y1 w (by have e:A++[Value.int .i64 x1]++(([Value.bool false]++([Value.int .u64 0]++lPT ⟨0,0,false⟩))++([Value.slice none 0 0]++([Value.int .u64 0]++(Z32++(Cu.fws 0++Z)))))=A++([Value.int .i64 x1]++(([Value.bool false]++([Value.int .u64 0]++lPT ⟨0,0,false⟩))++([Value.slice none 0 0]++([Value.int .u64 0]++(Z32++(Cu.fws 0++Z)))))):=List.append_assoc ..; rw [e]; exact hw)) (λu M hM=>?_)
  obtain ⟨x2,s2,sl2,cs2,N2,a2,n2,o2,⟨rfl,r2⟩,e2,h2,y2,rfl⟩:=hM
  have g2:s2.rest.length≤s.rest.length:=Nat.le_trans h2 g1
  have A2:(A++[Value.int .i64 x1]++(cAM x2)).length=f+12:=by rw [List.length_append,A1,n2]
  refine sA<|sp J<|sp J<|sp J<|sP (pT gx (f+12))<|Sy.callT (λw hw=>Ef 6000 dZ w0.inn gc gr gx (f+12) tx (A++[Value.int .i64 x1]++(cAM x2)) ([Value.int .u64 0]++(Z32++(Cu.fws 0++Z))) sl2 s2 (R++N1++N2) S (λb h=>List.mem_append_left _ (List.mem_append_left _ (hS b h))) A2 e2 (Nat.le_trans g2 hl) y2 w (by have e:A++[Value.int .i64 x1]++(cAM x2)++([Value.slice none 0 0]++([Value.int .u64 0]++(Z32++(Cu.fws 0++Z))))=A++[Value.int .i64 x1]++(cAM x2++([Value.slice none 0 0]++([Value.int .u64 0]++(Z32++(Cu.fws 0++Z))))):=List.append_assoc ..; rw [e]; exact hw)) (λu M hM=>?_)
  obtain ⟨x3,s3,sl3,cs3,N3,a3,n3,o3,⟨v3,rfl,r3⟩,e3,h3,y3,rfl⟩:=hM
  have g3:s3.rest.length≤s.rest.length:=Nat.le_trans h3 g2
  have A3:(A++[Value.int .i64 x1]++(cAM x2)++[v3]).length=f+13:=by rw [List.length_append,A2,n3]
  refine sA<|sp J<|sp J<|sp J<|sP (pT gx (f+13))<|Sy.callT (λw hw=>H3 w0.inn gc gr gx (f+13) tx (A++[Value.int .i64 x1]++(cAM x2)++[v3]) (Z32++(Cu.fws 0++Z)) sl3 s3 (R++N1++N2++N3) S (λb h=>List.mem_append_left _ (List.mem_append_left _ (List.mem_append_left _ (hS b h)))) A3 e3 (Nat.le_trans g3 hl) y3 w (by have e:A++[Value.int .i64 x1]++(cAM x2)++[v3]++([Value.int .u64 0]++(Z32++(Cu.fws 0++Z)))=A++[Value.int .i64 x1]++(cAM x2)++([v3]++([Value.int .u64 0]++(Z32++(Cu.fws 0++Z)))):=List.append_assoc ..; rw [e]; exact hw)) (λu M hM=>?_)
  obtain ⟨x4,s4,sl4,cs4,N4,a4,n4,o4,⟨rfl,r4⟩,e4,h4,y4,rfl⟩:=hM
  have g4:s4.rest.length≤s.rest.length:=Nat.le_trans h4 g3
  have A4:(A++[Value.int .i64 x1]++(cAM x2)++[v3]++[Value.int .u64 (x4:Int)]).length=f+14:=by rw [List.length_append,A3,n4]
  refine sA<|sp J<|sp J<|sp J<|sP (pT gx (f+14))<|Sy.callT (λw hw=>EE w0.inn gc gr gx (f+14) tx (A++[Value.int .i64 x1]++(cAM x2)++[v3]++[Value.int .u64 (x4:Int)]) (Cu.fws 0++Z) sl4 s4 (R++N1++N2++N3++N4) S (λb h=>List.mem_append_left _ (List.mem_append_left _ (List.mem_append_left _ (List.mem_append_left _ (hS b h))))) A4 e4 (Nat.le_trans g4 hl) y4 w (by have e:A++[Value.int .i64 x1]++(cAM x2)++[v3]++[Value.int .u64 (x4:Int)]++(Z32++(Cu.fws 0++Z))=A++[Value.int .i64 x1]++(cAM x2)++[v3]++([Value.int .u64 (x4:Int)]++(Z32++(Cu.fws 0++Z))):=List.append_assoc ..; rw [e]; exact hw)) (λu M hM=>?_)
  obtain ⟨x5,s5,sl5,cs5,N5,a5,n5,o5,⟨rfl,r5⟩,e5,h5,y5,rfl⟩:=hM
  have g5:s5.rest.length≤s.rest.length:=Nat.le_trans h5 g4
  have A5:(A++[Value.int .i64 x1]++(cAM x2)++[v3]++[Value.int .u64 (x4:Int)]++(x5.map bv)).length=f+46:=by rw [List.length_append,A4,n5]
  refine Sy.nil<|Sy.then_<|Sy.region<|sp J<|sp J<|sp J<|sP (pT gx (f+46))<|Sy.callT (λw hw=>Ox w0.inn gc gr gx (f+46) tx (A++[Value.int .i64 x1]++(cAM x2)++[v3]++[Value.int .u64 (x4:Int)]++(x5.map bv)) Z sl5 s5 (R++N1++N2++N3++N4++N5) S (λb h=>List.mem_append_left _ (List.mem_append_left _ (List.mem_append_left _ (List.mem_append_left _ (List.mem_append_left _ (hS b h)))))) A5 e5 (Nat.le_trans g5 hl) y5 w (by have e:A++[Value.int .i64 x1]++(cAM x2)++[v3]++[Value.int .u64 (x4:Int)]++(x5.map bv)++(Cu.fws 0++(Z))=A++[Value.int .i64 x1]++(cAM x2)++[v3]++[Value.int .u64 (x4:Int)]++(x5.map bv++(Cu.fws 0++(Z))):=List.append_assoc ..; rw [e]; exact hw)) (λu M hM=>?_)
  obtain ⟨x6,s6,sl6,cs6,N6,a6,n6,o6,⟨rfl,r6⟩,e6,h6,y6,rfl⟩:=hM
  have g6:s6.rest.length≤s.rest.length:=Nat.le_trans h6 g5
  have A6:(A++[Value.int .i64 x1]++(cAM x2)++[v3]++[Value.int .u64 (x4:Int)]++(x5.map bv)++(Cu.fws x6)).length=f+50:=by rw [List.length_append,A5,n6]
  refine Sy.nil<|Sy.then_<|Sy.exit<|Sy.in_pass (by decide)<|Sy.then_exit<|Sy.in_exit ?_
  have hAf:After Gq s ⟨x1,x2,x3,x4,x5,x6⟩ s6:=a1.bind (by
   rw [if_neg h0]
   exact After.mustY (decide_eq_true hk) (a2.bind (a3.bind (a4.bind (a5.bind (a6.bind (After.ret _ _)))))))
  have hRp:D4 (rdB (N1++(N2++(N3++(N4++(N5++N6)))))) ([Value.int .i64 x1]++(cAM x2++([v3]++([Value.int .u64 (x4:Int)]++(x5.map bv++(Cu.fws x6)))))) ⟨x1,x2,x3,x4,x5,x6⟩:=⟨v3,rfl,r2,r3.le (Ac λb h=>by simp [h]),r4,r5,r6⟩
  exact Sy.retT0 J (CRS gc gr gx tx (A++(([Value.int .i64 x1]++(cAM x2++([v3]++([Value.int .u64 (x4:Int)]++(x5.map bv++(Cu.fws x6))))))++Z)) sl6 s6.e (R++(N1++(N2++(N3++(N4++(N5++N6))))))) (λ_ h=>by simpa only [List.append_assoc,List.cons_append,List.nil_append] using h) (λ_=>⟨_,s6,sl6,_,_,hAf,Mk hRp,Fv hRp,hRp,e6,g6,y6,rfl⟩)
 refine Sy.seq<|Sy.block<|Sy.block<|Sy.seq<|Sy.block<|Sy.seq<|Sy.seq<|sC<|sS (.bool false) (Quiet.pure (AD .eql _ _ _ .i64 _ _ _ J J J (Ab _ _ _ _ _ (decide_eq_false (λe=>h0 e)))))<|sp J<|sG<|sU<|Sy.skip<|Sy.then_<|Sy.seq<|sC<|sS (.bool false) (Quiet.pure (AD .eql _ _ _ .i64 _ _ _ J J J (Ab _ _ _ _ _ (decide_eq_false (λe=>hk (.inl e))))))<|sp J<|sG<|sU<|Sy.skip<|Sy.then_<|sC<|sS (.bool false) (Quiet.pure (AD .eql _ _ _ .i64 _ _ _ J J J (Ab _ _ _ _ _ (decide_eq_false (λe=>hk (.inr e))))))<|sp J<|sG<|sU<|Sy.skip<|Sy.then_<|Sy.exit<|Sy.in_pass (by decide)<|Sy.then_exit<|Sy.in_pass (by decide)<|Sy.in_pass dZ ?_
 refine Sy.then_exit<|Sy.in_exit<|sB<|sp J<|Sy.permS p5<|Sy.callT (λw hw=>C5 w0.inn gc gr sl1 s1.e e1 ((gx,tx,(A++([Value.int .i64 x1]++(([Value.bool false]++([Value.int .u64 0]++lPT ⟨0,0,false⟩))++([Value.slice none 0 0]++([Value.int .u64 0]++(Z32++(Cu.fws 0++Z))))))).toArray)::(R++N1)) false w hw) (λu M hM=>?_)
 subst hM
 obtain ⟨e2,he2⟩:=xE (if false=true then s1.e else if s1.e=0 then 120 else s1.e)
 rw [← he2]
 rw [if_neg dZ] at he2
 have he3:e2≠0:=by rw [he2]; split <;> omega
 have he4:e2≤200:=by rw [he2]; split <;> omega
 refine sG<|Sy.exit<|Sy.in_exit ?_
 have p6:(CRN gc gr sl1 e2 ((gx,tx,(A++([Value.int .i64 x1]++(([Value.bool false]++([Value.int .u64 0]++lPT ⟨0,0,false⟩))++([Value.slice none 0 0]++([Value.int .u64 0]++(Z32++(Cu.fws 0++Z))))))).toArray)::(R++N1))).Perm (CRS gc gr gx tx (A++([Value.int .i64 x1]++(([Value.bool false]++([Value.int .u64 0]++lPT ⟨0,0,false⟩))++([Value.slice none 0 0]++([Value.int .u64 0]++(Z32++(Cu.fws 0++Z))))))) sl1 e2 (R++N1)):=BU
 have hAf:After Gq s ⟨x1,zAM,[],0,z32,0⟩ ⟨s1.rest,e2⟩:=a1.bind (by rw [if_neg h0,decide_eq_false hk]; exact After.mustX _ _ he3)
 exact Sy.retT0 J (CRS gc gr gx tx (A++(([Value.int .i64 x1]++(([Value.bool false]++([Value.int .u64 0]++lPT ⟨0,0,false⟩))++([Value.slice none 0 0]++([Value.int .u64 0]++(Z32++(Cu.fws 0))))))++Z)) sl1 e2 (R++N1)) (λ_ h=>by rw [hcs]; exact h.perm p6) (λ_=>⟨_,⟨s1.rest,e2⟩,sl1,_,N1,hAf,rfl,Fv (hrp1 N1),hrp1 N1,he4,h1,y1,rfl⟩)
theorem RU {z:Int} (h:Fx z=true):okO z=true:=by
 unfold Fx at h; unfold okO
 rw [Bool.and_eq_true,decide_eq_true_eq,decide_eq_true_eq] at h ⊢
 omega
theorem Uy:IK 61 122 CT E7 Dr Dg:=λw0 gc gw gx f bad s R b cs x hx _ hc hb hl w hw=>by
 obtain ⟨z,pt,ix,iss,pg,wi⟩:=x
 obtain ⟨ci,cg,vw,rfl,h1,h2,h3,h4,h5⟩:=hx
 dsimp only at h1 h2 h3 h4 h5
 unfold Dg at hl
 dsimp only at hl
 have m1:(pt.map bv++[Value.int .u32 (ix:Int)]).length=33:=by rw [List.length_append,List.length_map,h1]; rfl
 have m3:=Mk h3
 have m4:=Pw h4
 have c0:OwnAt R gx f ([.int .i64 z]++((pt.map bv++[.int .u32 (ix:Int)])++(ci++(cg++[vw])))):=hc
 have c1:OwnAt R gx (f+1) ((pt.map bv++[.int .u32 (ix:Int)])++(ci++(cg++[vw]))):=c0.right (n:=1) rfl
 have c2:OwnAt R gx (f+34) (ci++(cg++[vw])):=by have q:=c1.right m1; rwa [Nat.add_assoc] at q
 have c4:OwnAt R gx (f+84) (cg++[vw]):=by have q:=c2.right m3; rwa [Nat.add_assoc] at q
 have c5:OwnAt R gx (f+121) [vw]:=by have q:=c4.right m4; rwa [Nat.add_assoc] at q
 have X0:rdC w0.inn R gx f (.int .i64 z):=(c0.at w0.inn).one
 refine Sy.enterT (args:=[ptr gc,pT gx f]) hw Tryz.func61 J kL<|sC<|sp J<|sp J<|sp J<|sP (pT gx f)<|Sy.callT (λw hw=>Fy w0.inn gc gw gx f bad s R b z X0 hb om w hw) (λu M hM=>?_)
 obtain ⟨s1,bad1,b1,q1,p1,rfl⟩:=hM
 have l1:b1.length≤b.length+1:=q1.len
 refine sA<|sp J<|sp J<|sp J<|sP (pT gx (f+1))<|Sy.callT (λw hw=>LI w0.inn gc gw gx (f+1) bad1 s1 R b1 _ (pt,ix) ⟨rfl,h1,h2⟩ m1 (c1.left.at w0.inn) p1 (by show _+36≤_; omega) w hw) (λu M hM=>?_)
 obtain ⟨s2,bad2,b2,q2,p2,rfl⟩:=hM
 have l2:b2.length≤b1.length+36:=q2.len
 refine sA<|sp J<|sp J<|sp J<|sP (pT gx (f+34))<|Sy.callT (λw hw=>Rn w0.inn gc gw gx (f+34) bad2 s2 R b2 ci iss h3 m3 c2.left p2 om w hw) (λu M hM=>?_)
 obtain ⟨s3,bad3,b3,q3,p3,rfl⟩:=hM
 have l3:b3.length≤b2.length+DH iss:=q3.len
 refine sG<|Sy.seq<|sC<|sp J<|sp J<|sP (pT gx f)<|sS (.int .i64 z) (AH (R:=R) X0 Ar J uy3)<|sG<|Sy.block<|sC ?_
 have fine:∀ (okP:Bool) (eP:Byt) (bad4 bad5:Bool) (b4 b5:Byt),Fx z=true→E7 ⟨z,pt,ix,iss,pg,wi⟩=(C4 iss && (okP && okW wi))→Dr ⟨z,pt,ix,iss,pg,wi⟩=[CZ z]++(pt++(nb 4 ix++(Dq iss++(eP++IR Er wi))))→Wrote okP eP (EZ pg) bad3 b3 bad4 b4→Wrote (okW wi) (IR Er wi) (9+(wi.map wtT).sum) bad4 b4 bad5 b5→Wrote (E7 ⟨z,pt,ix,iss,pg,wi⟩) (Dr ⟨z,pt,ix,iss,pg,wi⟩) (Dg ⟨z,pt,ix,iss,pg,wi⟩) bad b bad5 b5:=λokP eP bad4 bad5 b4 b5 hk e1 e2 g4 g5=>by
  have q:=q1.then_ (q2.then_ (q3.then_ (g4.then_ g5)))
  rw [RU hk,Bool.true_and,Bool.true_and] at q
  rw [e1,e2]
  unfold Mu at q
  simp only [List.append_assoc] at q ⊢
  exact q
 by_cases hk1:z=1
 ·subst hk1
  obtain ⟨vt,vp,vs,rfl,d1,⟨A1,n1,k1,rfl,e1,_⟩,d3,d4,⟨A2,n2,k2,rfl,e2,_⟩,⟨A3,n3,k3,rfl,e3,_⟩⟩:=h4
  obtain ⟨ok,hok⟩:=xE (DL pg)
  refine sP (.bool true)<|sp J<|sG<|sT<|Sy.region<|sp J<|sp J<|sp J<|sP (pT gx (f+84))<|sS (.agg (cPG pg (.slice A1 n1 k1) (.slice A2 n2 k2) (.slice A3 n3 k3)).toArray) (Bd (R:=R) (cs:=cPG pg (.slice A1 n1 k1) (.slice A2 n2 k2) (.slice A3 n3 k3)) (c4.left.at w0.inn) Ar m4 J HH)<|sS (.bool ok) (qg (λw _=>by rw [hok]; exact Im w pg A1 A2 A3 n1 k1 n2 k2 n3 k3 e1 e2 e3 d1))<|Sy.callT (λw hw=>Bt w0.inn gc gw bad3 ok s3 R w hw) (λu M hM=>?_)
  subst hM
  refine Sy.nil<|Sy.in_<|Sy.then_<|Sy.region<|sp J<|sp J<|sp J<|sP (pT gx (f+121))<|Sy.callT (λw hw=>FO (rep:=DP) Hq Cr GH w0.inn gc gw gx (f+121) 16 dZ (bad3 || !ok) s3 R b3 vw wi h5 (c5.at w0.inn).one p3 om w hw) (λu M hM=>?_)
  obtain ⟨s5,bad5,b5,q5,p5,rfl⟩:=hM
  refine Sy.nil ?_
  exact Sy.retT0 J (CWS gc gw bad5 s5 R) (λ_ h=>h) (λ_=>⟨s5,bad5,b5,fine ok [] (bad3 || !ok) bad5 b3 b5 J (by rw [hok]; rfl) (by unfold Dr; rfl) ((Wrote.must ok bad3 b3).le (Nat.zero_le _)) q5,p5,rfl⟩)
 refine sS (.bool false) (Quiet.pure (AD .eql _ _ _ .i64 _ _ _ J J J (Ab _ _ _ _ _ (decide_eq_false hk1))))<|sp J<|sG<|sU<|sC ?_
 by_cases hk2:z=2
 ·subst hk2
  refine sP (.bool true)<|sp J<|sG<|sT<|Sy.region<|sp J<|sp J<|sp J<|sP (pT gx (f+84))<|Sy.callT (λw hw=>UD w0.inn gc gw gx (f+84) bad3 s3 R b3 cg pg h4 m4 (c4.left.at w0.inn) p3 om w hw) (λu M hM=>?_)
  obtain ⟨s4,bad4,b4,q4,p4,rfl⟩:=hM
  have l4:b4.length≤b3.length+EZ pg:=q4.len
  refine Sy.nil<|Sy.in_<|Sy.then_<|Sy.region<|sp J<|sp J<|sp J<|sP (pT gx (f+121))<|Sy.callT (λw hw=>FO (rep:=DP) Hq Cr GH w0.inn gc gw gx (f+121) 16 dZ bad4 s4 R b4 vw wi h5 (c5.at w0.inn).one p4 om w hw) (λu M hM=>?_)
  obtain ⟨s5,bad5,b5,q5,p5,rfl⟩:=hM
  refine Sy.nil ?_
  exact Sy.retT0 J (CWS gc gw bad5 s5 R) (λ_ h=>h) (λ_=>⟨s5,bad5,b5,fine (Hr pg) (F9 pg) bad4 bad5 b4 b5 J J (by unfold Dr; rfl) q4 q5,p5,rfl⟩)
 have hno:E7 ⟨z,pt,ix,iss,pg,wi⟩=false:=by
  unfold E7
  dsimp only
  rw [Mc (λh=>h.elim hk1 hk2)]; rfl
 refine sS (.bool false) (Quiet.pure (AD .eql _ _ _ .i64 _ _ _ J J J (Ab _ _ _ _ _ (decide_eq_false hk2))))<|sp J<|sG<|sU<|Sy.region<|sp J<|Sy.callT (λw hw=>Bt w0.inn gc gw bad3 false s3 R w hw) (λu M hM=>?_)
 subst hM
 refine Sy.nil<|Sy.in_<|Sy.then_<|Sy.region<|sp J<|sp J<|sp J<|sP (pT gx (f+121))<|Sy.callT (λw hw=>FO (rep:=DP) Hq Cr GH w0.inn gc gw gx (f+121) 16 dZ (bad3 || !false) s3 R b3 vw wi h5 (c5.at w0.inn).one p3 om w hw) (λu M hM=>?_)
 obtain ⟨s5,bad5,b5,q5,p5,rfl⟩:=hM
 refine Sy.nil ?_
 have qb:=q5.bad
 have ql:=q5.len
 have hbt:bad5=true:=by rw [qb]; cases bad3 <;> rfl
 exact Sy.retT0 J (CWS gc gw bad5 s5 R) (λ_ h=>h) (λ_=>⟨s5,bad5,b5,⟨by rw [hno,hbt]; cases bad <;> rfl,λh=>(by rw [hbt] at h; cases h),by unfold Dg; dsimp only; omega⟩,p5,rfl⟩)
theorem Pk {A v Z:List Value} {f k:Nat} (hA:A.length=f) (hv:v.length=k):f+k≤(A++(v++Z)).length:=by rw [List.length_append,List.length_append,hA,hv]; omega
theorem RX:DL zPG=true:=dZ
theorem Gs (C:Rdr):D3 C (Z32++([Value.slice none 0 0]++([Value.int .u32 0]++([Value.int .u32 0]++([Value.slice none 0 0]++([Value.slice none 0 0])))))) zPG:=⟨_,_,_,rfl,rfl,BytR.nil _,(show (0:Nat)<4294967296 by decide),(show (0:Nat)<4294967296 by decide),⟨none,0,0,rfl,rfl,Nat.le_refl _,Nat.zero_le _,λh=>(h J).elim⟩,BytR.nil _⟩
theorem Uz:B4 61 122 ([Value.int .i64 0]++((Z32++([Value.int .u32 0]))++(([Value.int .i64 0]++(([Value.bool false]++([Value.int .u64 0]++lPT ⟨0,0,false⟩))++([Value.slice none 0 0]++([Value.int .u64 0]++(Z32++(Cu.fws 0))))))++((Z32++([Value.slice none 0 0]++([Value.int .u32 0]++([Value.int .u32 0]++([Value.slice none 0 0]++([Value.slice none 0 0]))))))++([Value.slice none 0 0]))))) CT EY:=λw0 gc gr gx f tx A Z sl s R S hS hA he hl hv w hw=>by
 refine Sy.enterT (args:=[ptr gc,pT gx f]) hw Tryz.func61 J kL<|sC<|sp J<|sp J<|sp J<|sP (pT gx f)<|Sy.callT (λw hw=>G0 w0.inn gc gr gx f tx A ((Z32++([Value.int .u32 0]))++(([Value.int .i64 0]++(([Value.bool false]++([Value.int .u64 0]++lPT ⟨0,0,false⟩))++([Value.slice none 0 0]++([Value.int .u64 0]++(Z32++(Cu.fws 0))))))++((Z32++([Value.slice none 0 0]++([Value.int .u32 0]++([Value.int .u32 0]++([Value.slice none 0 0]++([Value.slice none 0 0]))))))++([Value.slice none 0 0]++Z)))) sl s R S hS hA he hl hv w (by simpa only [List.append_assoc] using hw)) (λu M hM=>?_)
 obtain ⟨x1,s1,sl1,cs1,N1,a1,n1,o1,rfl,e1,h1,y1,rfl⟩:=hM
 have g1:s1.rest.length≤s.rest.length:=h1
 have A1:(A++[Value.int .i64 x1]).length=f+1:=by rw [List.length_append,hA,n1]
 refine sA<|sp J<|sp J<|sp J<|sP (pT gx (f+1))<|Sy.callT (λw hw=>LJ w0.inn gc gr gx (f+1) tx (A++[Value.int .i64 x1]) (([Value.int .i64 0]++(([Value.bool false]++([Value.int .u64 0]++lPT ⟨0,0,false⟩))++([Value.slice none 0 0]++([Value.int .u64 0]++(Z32++(Cu.fws 0))))))++((Z32++([Value.slice none 0 0]++([Value.int .u32 0]++([Value.int .u32 0]++([Value.slice none 0 0]++([Value.slice none 0 0]))))))++([Value.slice none 0 0]++Z))) sl1 s1 (R++N1) S (λb h=>List.mem_append_left _ (hS b h)) A1 e1 (Nat.le_trans g1 hl) y1 w (by have e:A++[Value.int .i64 x1]++((Z32++([Value.int .u32 0]))++(([Value.int .i64 0]++(([Value.bool false]++([Value.int .u64 0]++lPT ⟨0,0,false⟩))++([Value.slice none 0 0]++([Value.int .u64 0]++(Z32++(Cu.fws 0))))))++((Z32++([Value.slice none 0 0]++([Value.int .u32 0]++([Value.int .u32 0]++([Value.slice none 0 0]++([Value.slice none 0 0]))))))++([Value.slice none 0 0]++Z))))=A++([Value.int .i64 x1]++((Z32++([Value.int .u32 0]))++(([Value.int .i64 0]++(([Value.bool false]++([Value.int .u64 0]++lPT ⟨0,0,false⟩))++([Value.slice none 0 0]++([Value.int .u64 0]++(Z32++(Cu.fws 0))))))++((Z32++([Value.slice none 0 0]++([Value.int .u32 0]++([Value.int .u32 0]++([Value.slice none 0 0]++([Value.slice none 0 0]))))))++([Value.slice none 0 0]++Z))))):=List.append_assoc ..; rw [e]; exact hw)) (λu M hM=>?_)
 obtain ⟨x2,s2,sl2,cs2,N2,a2,n2,o2,⟨rfl,r2a,r2b⟩,e2,h2,y2,rfl⟩:=hM
 have g2:s2.rest.length≤s.rest.length:=Nat.le_trans h2 g1
 have A2:(A++[Value.int .i64 x1]++(x2.1.map bv++[Value.int .u32 (x2.2:Int)])).length=f+34:=by rw [List.length_append,A1,n2]
 refine sA<|sp J<|sp J<|sp J<|sP (pT gx (f+34))<|Sy.callT (λw hw=>Ro w0.inn gc gr gx (f+34) tx (A++[Value.int .i64 x1]++(x2.1.map bv++[Value.int .u32 (x2.2:Int)])) ((Z32++([Value.slice none 0 0]++([Value.int .u32 0]++([Value.int .u32 0]++([Value.slice none 0 0]++([Value.slice none 0 0]))))))++([Value.slice none 0 0]++Z)) sl2 s2 (R++N1++N2) S (λb h=>List.mem_append_left _ (List.mem_append_left _ (hS b h))) A2 e2 (Nat.le_trans g2 hl) y2 w (by have e:A++[Value.int .i64 x1]++(x2.1.map bv++[Value.int .u32 (x2.2:Int)])++(([Value.int .i64 0]++(([Value.bool false]++([Value.int .u64 0]++lPT ⟨0,0,false⟩))++([Value.slice none 0 0]++([Value.int .u64 0]++(Z32++(Cu.fws 0))))))++((Z32++([Value.slice none 0 0]++([Value.int .u32 0]++([Value.int .u32 0]++([Value.slice none 0 0]++([Value.slice none 0 0]))))))++([Value.slice none 0 0]++Z)))=A++[Value.int .i64 x1]++(x2.1.map bv++[Value.int .u32 (x2.2:Int)]++(([Value.int .i64 0]++(([Value.bool false]++([Value.int .u64 0]++lPT ⟨0,0,false⟩))++([Value.slice none 0 0]++([Value.int .u64 0]++(Z32++(Cu.fws 0))))))++((Z32++([Value.slice none 0 0]++([Value.int .u32 0]++([Value.int .u32 0]++([Value.slice none 0 0]++([Value.slice none 0 0]))))))++([Value.slice none 0 0]++Z)))):=List.append_assoc ..; rw [e]; exact hw)) (λu M hM=>?_)
 obtain ⟨x3,s3,sl3,cs3,N3,a3,n3,o3,r3,e3,h3,y3,rfl⟩:=hM
 have g3:s3.rest.length≤s.rest.length:=Nat.le_trans h3 g2
 have A3:(A++[Value.int .i64 x1]++(x2.1.map bv++[Value.int .u32 (x2.2:Int)])++(cs3)).length=f+84:=by rw [List.length_append,A2,n3]
 refine Sy.permS (M:=CRS gc gr gx tx (A++[Value.int .i64 x1]++(x2.1.map bv++[Value.int .u32 (x2.2:Int)])++(cs3)++((Z32++([Value.slice none 0 0]++([Value.int .u32 0]++([Value.int .u32 0]++([Value.slice none 0 0]++([Value.slice none 0 0]))))))++([Value.slice none 0 0]++Z))) sl3 s3.e (R++N1++N2++N3)) (List.Perm.of_eq (congrArg (λz=>CRS gc gr gx tx z sl3 s3.e (R++N1++N2++N3)) (show (A++[Value.int .i64 x1]++(x2.1.map bv++[Value.int .u32 (x2.2:Int)])++(cs3++((Z32++([Value.slice none 0 0]++([Value.int .u32 0]++([Value.int .u32 0]++([Value.slice none 0 0]++([Value.slice none 0 0]))))))++([Value.slice none 0 0]++Z))))=(A++[Value.int .i64 x1]++(x2.1.map bv++[Value.int .u32 (x2.2:Int)])++(cs3)++((Z32++([Value.slice none 0 0]++([Value.int .u32 0]++([Value.int .u32 0]++([Value.slice none 0 0]++([Value.slice none 0 0]))))))++([Value.slice none 0 0]++Z))) from (List.append_assoc ..).symm)))<|sG<|Sy.seq<|sC<|sp J<|sp J<|sP (pT gx f)<|sS (.int .i64 x1) (Quiet.cell 1 gx f tx 3 (A++[Value.int .i64 x1]++(x2.1.map bv++[Value.int .u32 (x2.2:Int)])++(cs3)++((Z32++([Value.slice none 0 0]++([Value.int .u32 0]++([Value.int .u32 0]++([Value.slice none 0 0]++([Value.slice none 0 0]))))))++([Value.slice none 0 0]++Z))).toArray _ _ J kR J uy3 J _ (by rw [show (A++[Value.int .i64 x1]++(x2.1.map bv++[Value.int .u32 (x2.2:Int)])++(cs3)++((Z32++([Value.slice none 0 0]++([Value.int .u32 0]++([Value.int .u32 0]++([Value.slice none 0 0]++([Value.slice none 0 0]))))))++([Value.slice none 0 0]++Z)))=A++([Value.int .i64 x1]++(x2.1.map bv++[Value.int .u32 (x2.2:Int)]++(cs3++((Z32++([Value.slice none 0 0]++([Value.int .u32 0]++([Value.int .u32 0]++([Value.slice none 0 0]++([Value.slice none 0 0]))))))++([Value.slice none 0 0]++Z))))) by simp only [List.append_assoc],List.getElem?_toArray,List.getElem?_append_right om,hA,Nat.sub_self]; rfl)) ?_
 refine sG<|Sy.block<|sC ?_
 have p5:(CRS gc gr gx tx (A++[Value.int .i64 x1]++(x2.1.map bv++[Value.int .u32 (x2.2:Int)])++(cs3)++((Z32++([Value.slice none 0 0]++([Value.int .u32 0]++([Value.int .u32 0]++([Value.slice none 0 0]++([Value.slice none 0 0]))))))++([Value.slice none 0 0]++Z))) sl3 s3.e (R++N1++N2++N3)).Perm (CRN gc gr sl3 s3.e ((gx,tx,(A++[Value.int .i64 x1]++(x2.1.map bv++[Value.int .u32 (x2.2:Int)])++(cs3)++((Z32++([Value.slice none 0 0]++([Value.int .u32 0]++([Value.int .u32 0]++([Value.slice none 0 0]++([Value.slice none 0 0]))))))++([Value.slice none 0 0]++Z))).toArray)::(R++N1++N2++N3))):=BU
 have head:∀ {p:Ps MIn} {y:MIn} {s':RS},After (AJ (BJ (Fx x1)) λ_=>AJ (A_ 32) λp=>AJ (Bj 4) λx=>AJ Gq λi=>AJ (if x1=2 then JI else BO zPG) λg=>AJ (Cz 16 (Bu 256)) λw=>BO ⟨x1,p,x,i,g,w⟩) s1 y s'→After EY s y s':=λh=>a1.bind h
 have a2':∀ {α:Type} {q:Byt→Nat→Ps α} {y:α} {s':RS},After (q x2.1 x2.2) s2 y s'→After (AJ (A_ 32) λp=>AJ (Bj 4) λx=>q p x) s1 y s':=λ{α} {q} {y} {s'} h=>by
  have e:(AJ (A_ 32) λp=>AJ (Bj 4) λx=>q p x)=AJ Q6 λz=>q z.1 z.2:=by
   funext l
   unfold Q6
   cases ht:A_ 32 l with
   | none=>rw [bind_none ht,bind_none]; exact bind_none ht
   | some u =>
    obtain ⟨p,r⟩:=u
    rw [bind_some ht]
    cases hn:Bj 4 r with
    | none=>rw [bind_none hn,bind_none]; rw [bind_some ht,bind_none hn]
    | some v =>
     obtain ⟨x,r2⟩:=v
     rw [bind_some hn,bind_some (show AJ (A_ 32) (λp=>AJ (Bj 4) λn=>BO (p,n)) l=some ((p,x),r2) by rw [bind_some ht,bind_some hn]; rfl)]
  rw [e]
  exact a2.bind h
 by_cases hk1:x1=1
 ·subst hk1
  refine sP (.bool true)<|sp J<|sG<|sT<|Sy.region<|sp J<|sp J<|sp J<|sP (pT gx (f+84))<|sS (.agg (Z32++([Value.slice none 0 0]++([Value.int .u32 0]++([Value.int .u32 0]++([Value.slice none 0 0]++([Value.slice none 0 0])))))).toArray) (Quiet.mid 1 gx (f+84) 37 tx 148 (A++[Value.int .i64 1]++(x2.1.map bv++[Value.int .u32 (x2.2:Int)])++(cs3)++((Z32++([Value.slice none 0 0]++([Value.int .u32 0]++([Value.int .u32 0]++([Value.slice none 0 0]++([Value.slice none 0 0]))))))++([Value.slice none 0 0]++Z))) (Z32++([Value.slice none 0 0]++([Value.int .u32 0]++([Value.int .u32 0]++([Value.slice none 0 0]++([Value.slice none 0 0])))))) _ _ J kR J HH J kR (Ca A3 J) (Pk A3 J))<|sS (.bool true) (qg (λw _=>by have q:=Im w zPG none none none 0 0 0 0 0 0 J J J rfl; rw [RX] at q; exact q))<|Sy.permS (M:=CRN gc gr sl3 s3.e ((gx,tx,(A++[Value.int .i64 1]++(x2.1.map bv++[Value.int .u32 (x2.2:Int)])++(cs3)++((Z32++([Value.slice none 0 0]++([Value.int .u32 0]++([Value.int .u32 0]++([Value.slice none 0 0]++([Value.slice none 0 0]))))))++([Value.slice none 0 0]++Z))).toArray)::(R++N1++N2++N3))) BU<|Sy.callT (λw hw=>C5 w0.inn gc gr sl3 s3.e e3 ((gx,tx,(A++[Value.int .i64 1]++(x2.1.map bv++[Value.int .u32 (x2.2:Int)])++(cs3)++((Z32++([Value.slice none 0 0]++([Value.int .u32 0]++([Value.int .u32 0]++([Value.slice none 0 0]++([Value.slice none 0 0]))))))++([Value.slice none 0 0]++Z))).toArray)::(R++N1++N2++N3)) true w hw) (λu M hM=>?_)
  subst hM
  rw [if_pos J]
  refine Sy.permS (M:=CRS gc gr gx tx (A++[Value.int .i64 1]++(x2.1.map bv++[Value.int .u32 (x2.2:Int)])++(cs3)++((Z32++([Value.slice none 0 0]++([Value.int .u32 0]++([Value.int .u32 0]++([Value.slice none 0 0]++([Value.slice none 0 0]))))))++([Value.slice none 0 0]++Z))) sl3 s3.e (R++N1++N2++N3)) BU<|Sy.nil<|Sy.in_<|Sy.then_<|Sy.region ?_
  have A4:(A++[Value.int .i64 1]++(x2.1.map bv++[Value.int .u32 (x2.2:Int)])++(cs3)++((Z32++([Value.slice none 0 0]++([Value.int .u32 0]++([Value.int .u32 0]++([Value.slice none 0 0]++([Value.slice none 0 0])))))))).length=f+121:=by rw [List.length_append,A3]; rfl
  refine sp J<|sp J<|sp J<|sP (pT gx (f+121))<|Sy.callT (λw hw=>FT (rep:=DP) (p:=Bu 256) Hq Cr GI w0.inn gc gr gx (f+121) 16 dZ tx (A++[Value.int .i64 1]++(x2.1.map bv++[Value.int .u32 (x2.2:Int)])++(cs3)++((Z32++([Value.slice none 0 0]++([Value.int .u32 0]++([Value.int .u32 0]++([Value.slice none 0 0]++([Value.slice none 0 0])))))))) Z sl3 s3 (R++N1++N2++N3) S (λb h=>List.mem_append_left _ (List.mem_append_left _ (List.mem_append_left _ (hS b h)))) A4 e3 (Nat.le_trans g3 hl) y3 w (by have e:A++[Value.int .i64 1]++(x2.1.map bv++[Value.int .u32 (x2.2:Int)])++(cs3)++((Z32++([Value.slice none 0 0]++([Value.int .u32 0]++([Value.int .u32 0]++([Value.slice none 0 0]++([Value.slice none 0 0])))))))++([Value.slice none 0 0]++Z)=A++[Value.int .i64 1]++(x2.1.map bv++[Value.int .u32 (x2.2:Int)])++(cs3)++((Z32++([Value.slice none 0 0]++([Value.int .u32 0]++([Value.int .u32 0]++([Value.slice none 0 0]++([Value.slice none 0 0]))))))++([Value.slice none 0 0]++Z)):=List.append_assoc ..; rw [e]; exact hw)) (λu M hM=>?_)
  obtain ⟨x5,s5,sl5,cs5,N5,a5,n5,o5,⟨v5,rfl,r5⟩,e5,h5,y5,rfl⟩:=hM
  refine Sy.nil ?_
  have hAf:After EY s ⟨1,x2.1,x2.2,x3,zPG,x5⟩ s5:=head (p:=EY) (After.mustY J (a2' (a3.bind (After.bind (by rw [if_neg dZ]; exact After.ret _ _) (a5.bind (After.ret _ _))))))
  have hRp:CT (rdB (N1++(N2++(N3++N5)))) ([Value.int .i64 1]++(x2.1.map bv++[Value.int .u32 (x2.2:Int)]++(cs3++((Z32++([Value.slice none 0 0]++([Value.int .u32 0]++([Value.int .u32 0]++([Value.slice none 0 0]++([Value.slice none 0 0]))))))++([v5]))))) ⟨1,x2.1,x2.2,x3,zPG,x5⟩:=⟨cs3,(Z32++([Value.slice none 0 0]++([Value.int .u32 0]++([Value.int .u32 0]++([Value.slice none 0 0]++([Value.slice none 0 0])))))),v5,rfl,r2a,r2b,Hw (Ac λb h=>by simp [h]) r3,Gs _,LstR.le (rep:=DP) Cr (Ac λb h=>by simp [h]) r5⟩
  exact Sy.retT0 J (CRS gc gr gx tx (A++(([Value.int .i64 1]++(x2.1.map bv++[Value.int .u32 (x2.2:Int)]++(cs3++((Z32++([Value.slice none 0 0]++([Value.int .u32 0]++([Value.int .u32 0]++([Value.slice none 0 0]++([Value.slice none 0 0]))))))++([v5])))))++Z)) sl5 s5.e (R++(N1++(N2++(N3++N5))))) (λ_ h=>by simpa only [List.append_assoc,List.cons_append,List.nil_append] using h) (λ_=>⟨_,s5,sl5,_,_,hAf,Px hRp,MZ hRp,hRp,e5,Nat.le_trans h5 g3,y5,rfl⟩)
 refine sS (.bool false) (Quiet.pure (AD .eql _ _ _ .i64 _ _ _ J J J (Ab _ _ _ _ _ (decide_eq_false hk1))))<|sp J<|sG<|sU<|sC ?_
 by_cases hk2:x1=2
 ·subst hk2
  refine sP (.bool true)<|sp J<|sG<|sT<|Sy.region<|sp J<|sp J<|sp J<|sP (pT gx (f+84))<|Sy.callT (λw hw=>UE w0.inn gc gr gx (f+84) tx (A++[Value.int .i64 2]++(x2.1.map bv++[Value.int .u32 (x2.2:Int)])++(cs3)) ([Value.slice none 0 0]++Z) sl3 s3 (R++N1++N2++N3) S (λb h=>List.mem_append_left _ (List.mem_append_left _ (List.mem_append_left _ (hS b h)))) A3 e3 (Nat.le_trans g3 hl) y3 w hw) (λu M hM=>?_)
  obtain ⟨x4,s4,sl4,cs4,N4,a4,n4,o4,r4,e4,h4,y4,rfl⟩:=hM
  have g4:s4.rest.length≤s.rest.length:=Nat.le_trans h4 g3
  have A4:(A++[Value.int .i64 2]++(x2.1.map bv++[Value.int .u32 (x2.2:Int)])++(cs3)++(cs4)).length=f+121:=by rw [List.length_append,A3,n4]
  refine Sy.nil<|Sy.in_<|Sy.then_<|Sy.region<|sp J<|sp J<|sp J<|sP (pT gx (f+121))<|Sy.callT (λw hw=>FT (rep:=DP) (p:=Bu 256) Hq Cr GI w0.inn gc gr gx (f+121) 16 dZ tx (A++[Value.int .i64 2]++(x2.1.map bv++[Value.int .u32 (x2.2:Int)])++(cs3)++(cs4)) Z sl4 s4 (R++N1++N2++N3++N4) S (λb h=>List.mem_append_left _ (List.mem_append_left _ (List.mem_append_left _ (List.mem_append_left _ (hS b h))))) A4 e4 (Nat.le_trans g4 hl) y4 w (by have e:A++[Value.int .i64 2]++(x2.1.map bv++[Value.int .u32 (x2.2:Int)])++(cs3)++(cs4)++([Value.slice none 0 0]++Z)=A++[Value.int .i64 2]++(x2.1.map bv++[Value.int .u32 (x2.2:Int)])++(cs3)++(cs4++([Value.slice none 0 0]++Z)):=List.append_assoc ..; rw [e]; exact hw)) (λu M hM=>?_)
  obtain ⟨x5,s5,sl5,cs5,N5,a5,n5,o5,⟨v5,rfl,r5⟩,e5,h5,y5,rfl⟩:=hM
  refine Sy.nil ?_
  have hAf:After EY s ⟨2,x2.1,x2.2,x3,x4,x5⟩ s5:=head (p:=EY) (After.mustY J (a2' (a3.bind (After.bind (by rw [if_pos J]; exact a4) (a5.bind (After.ret _ _))))))
  have hRp:CT (rdB (N1++(N2++(N3++(N4++N5))))) ([Value.int .i64 2]++(x2.1.map bv++[Value.int .u32 (x2.2:Int)]++(cs3++(cs4++([v5]))))) ⟨2,x2.1,x2.2,x3,x4,x5⟩:=⟨cs3,cs4,v5,rfl,r2a,r2b,Hw (Ac λb h=>by simp [h]) r3,LZ (Ac λb h=>by simp [h]) r4,LstR.le (rep:=DP) Cr (Ac λb h=>by simp [h]) r5⟩
  exact Sy.retT0 J (CRS gc gr gx tx (A++(([Value.int .i64 2]++(x2.1.map bv++[Value.int .u32 (x2.2:Int)]++(cs3++(cs4++([v5])))))++Z)) sl5 s5.e (R++(N1++(N2++(N3++(N4++N5)))))) (λ_ h=>by simpa only [List.append_assoc,List.cons_append,List.nil_append] using h) (λ_=>⟨_,s5,sl5,_,_,hAf,Px hRp,MZ hRp,hRp,e5,Nat.le_trans h5 g4,y5,rfl⟩)
 refine sS (.bool false) (Quiet.pure (AD .eql _ _ _ .i64 _ _ _ J J J (Ab _ _ _ _ _ (decide_eq_false hk2))))<|sp J<|sG<|sU<|Sy.region<|sp J<|Sy.permS p5<|Sy.callT (λw hw=>C5 w0.inn gc gr sl3 s3.e e3 ((gx,tx,(A++[Value.int .i64 x1]++(x2.1.map bv++[Value.int .u32 (x2.2:Int)])++(cs3)++((Z32++([Value.slice none 0 0]++([Value.int .u32 0]++([Value.int .u32 0]++([Value.slice none 0 0]++([Value.slice none 0 0]))))))++([Value.slice none 0 0]++Z))).toArray)::(R++N1++N2++N3)) false w hw) (λu M hM=>?_)
 subst hM
 obtain ⟨e4,he4⟩:=xE (if false=true then s3.e else if s3.e=0 then 120 else s3.e)
 rw [← he4]
 rw [if_neg dZ] at he4
 have hne:e4≠0:=by rw [he4]; split <;> omega
 have he4':e4≤200:=by rw [he4]; split <;> omega
 refine Sy.permS (M:=CRS gc gr gx tx (A++[Value.int .i64 x1]++(x2.1.map bv++[Value.int .u32 (x2.2:Int)])++(cs3)++((Z32++([Value.slice none 0 0]++([Value.int .u32 0]++([Value.int .u32 0]++([Value.slice none 0 0]++([Value.slice none 0 0]))))))++([Value.slice none 0 0]++Z))) sl3 e4 (R++N1++N2++N3)) BU<|Sy.nil<|Sy.in_<|Sy.then_<|Sy.region ?_
 have A4:(A++[Value.int .i64 x1]++(x2.1.map bv++[Value.int .u32 (x2.2:Int)])++(cs3)++((Z32++([Value.slice none 0 0]++([Value.int .u32 0]++([Value.int .u32 0]++([Value.slice none 0 0]++([Value.slice none 0 0])))))))).length=f+121:=by rw [List.length_append,A3]; rfl
 refine sp J<|sp J<|sp J<|sP (pT gx (f+121))<|Sy.callT (λw hw=>FT (rep:=DP) (p:=Bu 256) Hq Cr GI w0.inn gc gr gx (f+121) 16 dZ tx (A++[Value.int .i64 x1]++(x2.1.map bv++[Value.int .u32 (x2.2:Int)])++(cs3)++((Z32++([Value.slice none 0 0]++([Value.int .u32 0]++([Value.int .u32 0]++([Value.slice none 0 0]++([Value.slice none 0 0])))))))) Z sl3 ⟨s3.rest,e4⟩ (R++N1++N2++N3) S (λb h=>List.mem_append_left _ (List.mem_append_left _ (List.mem_append_left _ (hS b h)))) A4 he4' (Nat.le_trans g3 hl) y3 w (by have e:A++[Value.int .i64 x1]++(x2.1.map bv++[Value.int .u32 (x2.2:Int)])++(cs3)++((Z32++([Value.slice none 0 0]++([Value.int .u32 0]++([Value.int .u32 0]++([Value.slice none 0 0]++([Value.slice none 0 0])))))))++([Value.slice none 0 0]++Z)=A++[Value.int .i64 x1]++(x2.1.map bv++[Value.int .u32 (x2.2:Int)])++(cs3)++((Z32++([Value.slice none 0 0]++([Value.int .u32 0]++([Value.int .u32 0]++([Value.slice none 0 0]++([Value.slice none 0 0]))))))++([Value.slice none 0 0]++Z)):=List.append_assoc ..; rw [e]; exact hw)) (λu M hM=>?_)
 obtain ⟨x5,s5,sl5,cs5,N5,a5,n5,o5,⟨v5,rfl,r5⟩,e5,h5,y5,rfl⟩:=hM
 refine Sy.nil ?_
 have hAf:After EY s ⟨x1,x2.1,x2.2,x3,zPG,x5⟩ s5:=head (p:=EY) (by rw [Mc (λh=>h.elim hk1 hk2)]; exact After.mustX _ _ (a5.bad hne))
 have hRp:CT (rdB (N1++(N2++(N3++N5)))) ([Value.int .i64 x1]++(x2.1.map bv++[Value.int .u32 (x2.2:Int)]++(cs3++((Z32++([Value.slice none 0 0]++([Value.int .u32 0]++([Value.int .u32 0]++([Value.slice none 0 0]++([Value.slice none 0 0]))))))++([v5]))))) ⟨x1,x2.1,x2.2,x3,zPG,x5⟩:=⟨cs3,(Z32++([Value.slice none 0 0]++([Value.int .u32 0]++([Value.int .u32 0]++([Value.slice none 0 0]++([Value.slice none 0 0])))))),v5,rfl,r2a,r2b,Hw (Ac λb h=>by simp [h]) r3,Gs _,LstR.le (rep:=DP) Cr (Ac λb h=>by simp [h]) r5⟩
 exact Sy.retT0 J (CRS gc gr gx tx (A++(([Value.int .i64 x1]++(x2.1.map bv++[Value.int .u32 (x2.2:Int)]++(cs3++((Z32++([Value.slice none 0 0]++([Value.int .u32 0]++([Value.int .u32 0]++([Value.slice none 0 0]++([Value.slice none 0 0]))))))++([v5])))))++Z)) sl5 s5.e (R++(N1++(N2++(N3++N5))))) (λ_ h=>by simpa only [List.append_assoc,List.cons_append,List.nil_append] using h) (λ_=>⟨_,s5,sl5,_,_,hAf,Px hRp,MZ hRp,hRp,e5,Nat.le_trans h5 g3,y5,rfl⟩)
section
variable {α:Type} {rep:Rdr→List Value→α→Prop} {ok:α→Bool} {enc:α→Byt} {wt:α→Nat}
theorem QK (hm:BI rep) (hp:IK 61 122 rep ok enc wt) (w0:Base) (gc gw g4 g7:Nat) (bad:Bool) (s:Slc) (R:AA) (b:Byt) (u:Value) (cs:List Value) (x:α) (h4:(g4,85,#[ptr gc])∈R) (h7:(g7,153,#[.func (.func 61) #[] #[]])∈R) (hx:rep (rdC w0 R) cs x) (hl:cs.length=122) (hb:BS s b) (hlen:b.length+wt x≤70368744170000) (w:World) (hw:St w0 w (CWS gc gw bad s R)) :
  AL 104 #[u,.agg cs.toArray,ptr g7,ptr g4] w (AQ w0 (WrC gc gw R (ok x) (enc x) (wt x) bad b)):=by
 refine Sy.enterT (args:=[u,.agg cs.toArray,ptr g7,ptr g4]) hw Tryz.func104 J kL<|sC<|sM 151 cs.toArray (λg5=>?_) kR (λw=>An J J kZ hl w)
 refine Sy.permS (List.Perm.of_eq eqCW)<|Sy.nil<|Sy.then_<|Sy.region<|sS (.func (.func 61) #[] #[]) (AH (R:=R++[(g5,151,cs.toArray)]) (Aj (inA h7)) Ar J SW)<|sS (ptr gc) (AH (R:=R++[(g5,151,cs.toArray)]) (Aj (inA h4)) Ar J CA)<|Sy.callT (λw hw=>hp w0.inn gc gw g5 0 bad s (R++[(g5,151,cs.toArray)]) b cs x (hm (B1 (λ_ h=>inA h)) hx) hl (UH CM) hb hlen w hw) (λv M hM=>?_)
 obtain ⟨s1,bad1,b1,h1,h2,rfl⟩:=hM
 refine Sy.nil ?_
 exact Sy.retT0 J (CWS gc gw bad1 s1 R) (λ_ h=>C1 h) (λ_=>⟨s1,bad1,b1,h1,h2,rfl⟩)
end
section
variable {α:Type} {rep:Rdr→List Value→α→Prop} {ok:α→Bool} {enc:α→Byt} {wt:α→Nat}
theorem Nl (hm:BI rep) (hp:IK 61 122 rep ok enc wt) (w0:Base) (gc gw g4 g7:Nat) (bad:Bool) (s:Slc) (R:AA) (b:Byt) (v:Value) (l:List α) (h4:(g4,85,#[ptr gc])∈R) (h7:(g7,153,#[.func (.func 61) #[] #[]])∈R) (hv:LstR (rdC w0 R) 122 rep v l) (hb:BS s b) (hlen:b.length+(9+(l.map wt).sum)≤70368744170000) (w:World) (hw:St w0 w (CWS gc gw bad s R)) :
  AL 103 #[ptr gw,v,.func (.func 104) #[] #[ptr g7,ptr g4]] w (AQ w0 (WrC gc gw R (l.all ok) (Af l.length++l.flatMap enc) (9+(l.map wt).sum) bad b)):=by
 obtain ⟨A,n,cp,rfl,h2,h3,h4',h5⟩:=hv
 have hmx:n<9223372036854775808:=by simp only [maxLen] at h4'; omega
 refine Sy.enterT (args:=[ptr gw,.slice A n cp,.func (.func 104) #[] #[ptr g7,ptr g4]]) hw Tryz.func103 J kL<|sC<|sp J<|sp J<|sP (.int .i64 (n:Int))<|sS (uZ (n:Int)) (Quiet.pure (λw=>Ce w _ _ _ n om J J))<|Sy.callT (λw hw=>Ev w0.inn gw s ((gc,134,#[ptr gw,.pointer none,.bool bad])::R) b n om hb om w (hw.perm permCW)) (λu M hM=>?_)
 obtain ⟨s1,hs1,rfl⟩:=hM
 have hn9:=Cj n
 refine Sy.permS permCW.symm<|Sy.nil<|sB<|sp J<|sP (.int .i64 (n:Int))<|sP (.int .i64 0)<|sG<|Sy.block ?_
 have hw0:Wrote true (Af n) 9 bad b bad (b++Af n):=Wrote.raw _ _ _ hn9
 have hsum:∀ i,((l.take i).map wt).sum≤(l.map wt).sum:=λi=>by
  have e:=congrArg (λz=>(z.map wt).sum) (List.take_append_drop i l)
  simp only [List.map_append,List.sum_append] at e
  omega
 refine Sy.loopT (Y:=Slc×Bool×Byt) n (λi y=>[(0,ptr gw),(2,.func (.func 104) #[] #[ptr g7,ptr g4]),(13,.slice A n cp),(14,.int .i64 (n:Int)),(15,.int .i64 (i:Int))]) (λi y=>CWS gc gw y.2.1 y.1 R) (λi y=>Wrote ((l.take i).all ok) (Af n++(l.take i).flatMap enc) (9+((l.take i).map wt).sum) bad b y.2.1 y.2.2∧BS y.1 y.2.2) (s1,bad,b++Af n) ⟨by
  have e:Wrote ((l.take 0).all ok) (Af n++(l.take 0).flatMap enc) (9+((l.take 0).map wt).sum) bad b bad (b++Af n):=by
   rw [List.take_zero]
   simpa using hw0
  exact e,hs1⟩ ac5 (λ_ h=>h) (λi y hi hy=>?_)
 obtain ⟨sy,bady,by_⟩:=y
 obtain ⟨hy,hsy⟩:=hy
 dsimp only at hy hsy ⊢
 refine sC ?_
 obtain ⟨b2,hb2⟩:=xE (decide (i<n))
 refine sS (.bool b2) (qls J J J hb2)<|sG<|Sy.seq ?_
 cases b2
 case' false =>
  have l2:=dN hb2
  obtain rfl:i=n:=om
  rw [List.take_of_length_le om] at hy
  refine sU<|Sy.exit<|Sy.then_exit<|Sy.then_exit<|Sy.in_exit ?_
  rw [h2]
  exact Sy.retT0 J (CWS gc gw bady sy R) (λ_ h=>h) (λ_=>⟨sy,bady,by_,hy,hsy,rfl⟩)
 have l2:=dY hb2
 obtain ⟨x,hx⟩:∃ x,l[i]? = some x:=⟨_,List.getElem?_eq_getElem om⟩
 obtain ⟨g,o,rfl,hq⟩:=h5 (by intro e; rw [e] at hx; cases hx)
 obtain ⟨cs,c1,c2,c3,c4⟩:=hq i x hx
 have htk:l.take (i+1)=l.take i++[x]:=by rw [List.take_add_one,hx]; rfl
 have hsi:=hsum (i+1)
 rw [htk] at hsi
 simp only [List.map_append,List.sum_append,List.map_cons,List.map_nil,List.sum_cons,List.sum_nil] at hsi
 refine sT<|Sy.skip<|Sy.then_<|Sy.seq<|Sy.block<|sC<|sS (.pointer (some ⟨g,o+i*122,none⟩)) (Quiet.pure (Bl 23 _ _ _ (some ⟨g,o,none⟩) g o n cp i 122 .i64 J J J J EM kF l2))<|sS (.agg cs.toArray) (Bd (R:=R) c4 Ar c1 J E8)<|sM 151 (([Value.int .i64 0]++((Z32++([Value.int .u32 0]))++(([Value.int .i64 0]++(([Value.bool false]++([Value.int .u64 0]++lPT ⟨0,0,false⟩))++([Value.slice none 0 0]++([Value.int .u64 0]++(Z32++(Cu.fws 0))))))++((Z32++([Value.slice none 0 0]++([Value.int .u32 0]++([Value.int .u32 0]++([Value.slice none 0 0]++([Value.slice none 0 0]))))))++([Value.slice none 0 0])))))).toArray (λg9=>?_)
 refine Sy.permS (List.Perm.of_eq eqCW)<|Sy.permS (List.perm_append_comm (l₁:=CWS gc gw bady sy R) (l₂:=[(g9,151,(([Value.int .i64 0]++((Z32++([Value.int .u32 0]))++(([Value.int .i64 0]++(([Value.bool false]++([Value.int .u64 0]++lPT ⟨0,0,false⟩))++([Value.slice none 0 0]++([Value.int .u64 0]++(Z32++(Cu.fws 0))))))++((Z32++([Value.slice none 0 0]++([Value.int .u32 0]++([Value.int .u32 0]++([Value.slice none 0 0]++([Value.slice none 0 0]))))))++([Value.slice none 0 0])))))).toArray)]) |> λh=>(List.Perm.of_eq eqCW.symm).trans h)<|sw 0 J cs.toArray (Writes.row 151 cs 122 _ _ J kR kR kR c1 kZ c2)<|Sy.permS ((List.perm_append_comm (l₁:=[(g9,151,cs.toArray)]) (l₂:=CWS gc gw bady sy R)).trans (List.Perm.of_eq eqCW))<|Sy.nil<|Sy.then_<|Sy.region<|sp J<|sp J<|sS (.agg cs.toArray) (Bd (R:=R++[(g9,151,cs.toArray)]) (FM CM) Ar c1 J E8)<|Sy.callT (λw hw=>QK (rep:=rep) (ok:=ok) (enc:=enc) (wt:=wt) hm hp w0.inn gc gw g4 g7 bady sy (R++[(g9,151,cs.toArray)]) by_ (ptr gw) cs x (inA h4) (inA h7) (hm (B1 (λ_ h=>inA h)) c3) c1 hsy (by have hyl:=hy.len; omega) w hw) (λv M hM=>?_)
 obtain ⟨s3,bad3,b3,q1,q2,rfl⟩:=hM
 refine Sy.nil<|Sy.in_<|Sy.then_<|Sy.region<|sS (iZ (i+1)) (qad J J J)<|sp J<|Sy.nil ?_
 have hW:=hy.then_ q1
 have hW':Wrote ((l.take (i+1)).all ok) (Af n++(l.take (i+1)).flatMap enc) (9+((l.take (i+1)).map wt).sum) bad b bad3 b3:=by
  rw [htk]
  simp only [List.all_append,List.flatMap_append,List.map_append,List.sum_append,List.all_cons,List.all_nil,List.flatMap_cons,List.flatMap_nil,List.map_cons,List.map_nil,List.sum_cons,List.sum_nil,Bool.and_true,List.append_nil,Nat.add_zero, ← List.append_assoc, ← Nat.add_assoc]
  simpa only [List.append_assoc,Nat.add_assoc] using hW
 exact Sy.againT (s3,bad3,b3) l2 ⟨hW',q2⟩ ac5 (λw h=>C1 h)
theorem Lc (hm:BI rep) (hp:IK 61 122 rep ok enc wt) (w0:Base) (gc gw gx f most:Nat) (hmo:most<1000000) (bad:Bool) (s:Slc) (R:AA) (b:Byt) (v:Value) (l:List α) (hv:LstR (rdC w0 R) 122 rep v l) (hc:rdC w0 R gx f v) (hb:BS s b) (hlen:b.length+(9+(l.map wt).sum)≤70368744170000) (w:World) (hw:St w0 w (CWS gc gw bad s R)) :
  AL 60 #[ptr gc,pT gx f,.int .i64 (most:Int),.func (.func 61) #[] #[]] w (AQ w0 (WrC gc gw R (decide (l.length≤most) && l.all ok) (Af l.length++l.flatMap enc) (9+(l.map wt).sum) bad b)):=by
 have hv0:=hv
 obtain ⟨A,n,cp,rfl,h2,h3,h4',h5⟩:=hv
 refine Sy.enterT (args:=[ptr gc,pT gx f,.int .i64 (most:Int),.func (.func 61) #[] #[]]) hw Tryz.func60 J kL<|sC<|sM 85 #[ptr gc] (λg4=>?_)
 refine Sy.permS (List.Perm.of_eq eqCW)<|sM 153 #[.func (.func 61) #[] #[]] (λg7=>?_)
 refine Sy.permS (List.Perm.of_eq eqCW) ?_
 obtain ⟨R1,hR1⟩:=xE (R++[(g4,85,#[ptr gc])]++[(g7,153,#[.func (.func 61) #[] #[]])])
 rw [← hR1]
 have m4:(g4,85,#[ptr gc])∈R1:=by rw [hR1]; exact inA CM
 have m7:(g7,153,#[.func (.func 61) #[] #[]])∈R1:=by rw [hR1]; exact CM
 have mR:∀ x∈R,x∈R1:=λx hx=>by rw [hR1]; exact inA (inA hx)
 have hv1:LstR (rdC w0 R1) 122 rep (.slice A n cp) l:=LstR.le (rep:=rep) hm (B1 mR) hv0
 have hc1:rdC w0 R1 gx f (.slice A n cp):=B1 mR _ _ _ hc
 have back:∀ {w:World} {bad':Bool} {s':Slc},St w0 w (CWS gc gw bad' s' R1)→St w0 w (CWS gc gw bad' s' R):=λh=>by
  rw [hR1,List.append_assoc] at h
  exact C1 h
 refine sG<|Sy.seq<|sC<|sS (ptr gc) (AH (R:=R1) (Aj m4) Ar J CA)<|sS (.bool false) (qg (λw hw=>CX w0.inn gc _ _ (List.mem_cons_self ..) w hw))<|sG<|sU<|Sy.skip ?_
 obtain ⟨b1,hb1⟩:=xE (decide (n≤most))
 refine sR (λj=>j == 7) ?_
 refine sD 0 J (ptr gc) (AH (R:=R1) (Aj m4) Ar J CA)<|sa 1 J J<|sa 2 J J<|se 3 [4,6,7] rfl (.slice A n cp) (AH (R:=R1) hc1 Ar J EM)<|sb 4 J (.int .i64 (n:Int))<|sa 5 J J<|sv 6 J (.bool b1) (AD .leq _ _ _ .i64 _ _ _ J J J (C' _ _ _ _ _ (by rw [hb1]; exact decide_eq_decide.2 om)))<|Sy.soleD 7 J (λQ2 hq2=>?_)
 refine Sy.callT (λw hw=>Bt w0.inn gc gw bad b1 s R1 w hw) (λu M hM=>?_)
 subst hM
 refine hq2 _ _<|sE ?_
 obtain ⟨bad1,hbad1⟩:=xE ((bad || !b1))
 rw [← hbad1]
 refine sB<|sS (ptr gc) (AH (R:=R1) (Aj m4) Ar J CA)<|sp J<|sP (pT gc 2)<|sS (.bool bad1) (qc 0 2 J J uy4)<|sP (.bool (!bad1))<|sG ?_
 cases bad1
 ·have hb1t:bad=false∧b1=true:=by cases bad <;> cases b1 <;> first | exact ⟨rfl,rfl⟩ | cases hbad1
  obtain ⟨rfl,rfl⟩:=hb1t
  have e1:decide (l.length≤most)=true:=by rw [h2, ← hb1]
  rw [e1,Bool.true_and]
  refine sT<|Sy.regionD (λj=>j == 8) kR<|se 0 [1,2,3,8] rfl (ptr gc) (AH (R:=R1) (Aj m4) Ar J CA)<|sa 1 J J<|sb 2 J (pT gc 0)<|sD 3 J (ptr gw) (qc 0 0 J J D0)<|sa 4 J J<|sa 5 J J<|sD 6 J (.slice A n cp) (AH (R:=R1) hc1 Ar J EM)<|sb 7 J (.func (.func 104) #[] #[ptr g7,ptr g4])<|Sy.soleD 8 J (λQ2 hq2=>?_)
  refine Sy.callT (λw hw=>Nl (rep:=rep) hm hp w0.inn gc gw g4 g7 false s R1 b (.slice A n cp) l m4 m7 hv1 hb hlen w hw) (λu M hM=>?_)
  obtain ⟨s1,bad2,b2,q1,q2,rfl⟩:=hM
  refine hq2 _ _<|sE ?_
  exact Sy.retT0 J (CWS gc gw bad2 s1 R) (λ_ h=>back h) (λ_=>⟨s1,bad2,b2,q1,q2,rfl⟩)
 ·refine sU<|Sy.skip ?_
  have e1:true=(bad || !(decide (l.length≤most) && l.all ok)):=by
   rw [h2, ← hb1]
   cases bad
   ·cases b1
    ·rfl
    ·cases hbad1
   ·rfl
  exact Sy.retT0 J (CWS gc gw true s R) (λ_ h=>back h) (λ_=>⟨s,true,b,⟨e1,λh=>(by cases h),by omega⟩,hb,rfl⟩)
end
section
variable {α:Type} {rep:Rdr→List Value→α→Prop} {p:Ps α}
theorem QO (hm:BI rep) (hp:B4 61 122 ((([Value.int .i64 0]++((Z32++([Value.int .u32 0]))++(([Value.int .i64 0]++(([Value.bool false]++([Value.int .u64 0]++lPT ⟨0,0,false⟩))++([Value.slice none 0 0]++([Value.int .u64 0]++(Z32++(Cu.fws 0))))))++((Z32++([Value.slice none 0 0]++([Value.int .u32 0]++([Value.int .u32 0]++([Value.slice none 0 0]++([Value.slice none 0 0]))))))++([Value.slice none 0 0]))))))) rep p) (w0:Base) (gc gr g4 g7:Nat) (sl:Value) (s:RS) (R S:AA) (hS:∀ b∈S,b∈R) (h4:(g4,85,#[ptr gc])∈R) (h7:(g7,153,#[.func (.func 61) #[] #[]])∈R) (he:s.e≤200) (hl:s.rest.length≤70368744177664) (hv:BytR (rdC w0 S) sl s.rest) (u:Value) (w:World) (hw:St w0 w (CRN gc gr sl s.e R)) :
  AL 102 #[u,ptr g7,ptr g4] w (AQ w0 (RdV 122 rep p w0 gc gr s R S)):=by
 refine Sy.enterT (args:=[u,ptr g7,ptr g4]) hw Tryz.func102 J kL<|sC<|sM 151 ((([Value.int .i64 0]++((Z32++([Value.int .u32 0]))++(([Value.int .i64 0]++(([Value.bool false]++([Value.int .u64 0]++lPT ⟨0,0,false⟩))++([Value.slice none 0 0]++([Value.int .u64 0]++(Z32++(Cu.fws 0))))))++((Z32++([Value.slice none 0 0]++([Value.int .u32 0]++([Value.int .u32 0]++([Value.slice none 0 0]++([Value.slice none 0 0]))))))++([Value.slice none 0 0]))))))).toArray (λga=>?_)
 refine sA<|sM 151 ((([Value.int .i64 0]++((Z32++([Value.int .u32 0]))++(([Value.int .i64 0]++(([Value.bool false]++([Value.int .u64 0]++lPT ⟨0,0,false⟩))++([Value.slice none 0 0]++([Value.int .u64 0]++(Z32++(Cu.fws 0))))))++((Z32++([Value.slice none 0 0]++([Value.int .u32 0]++([Value.int .u32 0]++([Value.slice none 0 0]++([Value.slice none 0 0]))))))++([Value.slice none 0 0]))))))).toArray (λgb=>?_)
 refine Sy.permS (M:=CRS gc gr gb 151 ([]++(((([Value.int .i64 0]++((Z32++([Value.int .u32 0]))++(([Value.int .i64 0]++(([Value.bool false]++([Value.int .u64 0]++lPT ⟨0,0,false⟩))++([Value.slice none 0 0]++([Value.int .u64 0]++(Z32++(Cu.fws 0))))))++((Z32++([Value.slice none 0 0]++([Value.int .u32 0]++([Value.int .u32 0]++([Value.slice none 0 0]++([Value.slice none 0 0]))))))++([Value.slice none 0 0])))))))++[])) sl s.e ((ga,151,((([Value.int .i64 0]++((Z32++([Value.int .u32 0]))++(([Value.int .i64 0]++(([Value.bool false]++([Value.int .u64 0]++lPT ⟨0,0,false⟩))++([Value.slice none 0 0]++([Value.int .u64 0]++(Z32++(Cu.fws 0))))))++((Z32++([Value.slice none 0 0]++([Value.int .u32 0]++([Value.int .u32 0]++([Value.slice none 0 0]++([Value.slice none 0 0]))))))++([Value.slice none 0 0]))))))).toArray)::R)) JO<|sA<|sS (.func (.func 61) #[] #[]) (AH (R:=(ga,151,((([Value.int .i64 0]++((Z32++([Value.int .u32 0]))++(([Value.int .i64 0]++(([Value.bool false]++([Value.int .u64 0]++lPT ⟨0,0,false⟩))++([Value.slice none 0 0]++([Value.int .u64 0]++(Z32++(Cu.fws 0))))))++((Z32++([Value.slice none 0 0]++([Value.int .u32 0]++([Value.int .u32 0]++([Value.slice none 0 0]++([Value.slice none 0 0]))))))++([Value.slice none 0 0]))))))).toArray)::R) (Aj (List.mem_cons_of_mem _ h7)) Dh J SW)<|sS (ptr gc) (AH (R:=(ga,151,((([Value.int .i64 0]++((Z32++([Value.int .u32 0]))++(([Value.int .i64 0]++(([Value.bool false]++([Value.int .u64 0]++lPT ⟨0,0,false⟩))++([Value.slice none 0 0]++([Value.int .u64 0]++(Z32++(Cu.fws 0))))))++((Z32++([Value.slice none 0 0]++([Value.int .u32 0]++([Value.int .u32 0]++([Value.slice none 0 0]++([Value.slice none 0 0]))))))++([Value.slice none 0 0]))))))).toArray)::R) (Aj (List.mem_cons_of_mem _ h4)) Dh J CA)<|Sy.callT (λw hw=>hp w0.inn gc gr gb 0 151 [] [] sl s ((ga,151,((([Value.int .i64 0]++((Z32++([Value.int .u32 0]))++(([Value.int .i64 0]++(([Value.bool false]++([Value.int .u64 0]++lPT ⟨0,0,false⟩))++([Value.slice none 0 0]++([Value.int .u64 0]++(Z32++(Cu.fws 0))))))++((Z32++([Value.slice none 0 0]++([Value.int .u32 0]++([Value.int .u32 0]++([Value.slice none 0 0]++([Value.slice none 0 0]))))))++([Value.slice none 0 0]))))))).toArray)::R) S (λb h=>List.mem_cons_of_mem _ (hS b h)) J he hl hv w hw) (λv M hM=>?_)
 obtain ⟨x,s',sl',cs,N,q1,q2,q3,q4,q5,q6,q7,rfl⟩:=hM
 rw [List.append_nil]
 refine sA<|sS (.agg cs.toArray) (Quiet.mid 1 gb 0 122 151 151 cs cs _ _ J kR J E8 J kR (by rw [List.drop_zero,List.take_of_length_le om]) om)<|sw 3 J cs.toArray (Writes.row 151 cs 122 _ _ J kR kR kR q2 kZ q3)<|sG<|Sy.ret ?_
 exact Sy.retT1 (CRN gc gr sl' s'.e (R++N)) J (.inl (Sy.Res.cell (ty':=151) ga 3 cs.toArray _ kZ J E8 J (by rw [List.size_toArray,q2]; kernel_rfl) rfl)) (λw h=>h.less (((List.Sublist.refl _).cons _ |>.cons_cons _).cons _ |>.cons_cons _)) ⟨x,s',sl',cs,N,q1,q2,q3,q4,rfl,q5,q6,q7,rfl⟩
theorem KZ (w:World) (gr most g4 g7:Nat):AL 163 #[ptr gr,.int .i64 (most:Int),.func (.func 102) #[] #[ptr g7,ptr g4]] w (A0 w (λv M=>∃ a b c,v=.func (.func 199) #[] #[ptr a,ptr b,ptr c]∧M=[(a,132,#[ptr gr]),(b,3,#[.int .i64 (most:Int)]),(c,226,#[.func (.func 102) #[] #[ptr g7,ptr g4]])])):=by
 refine Sy.enter (args:=[ptr gr,.int .i64 (most:Int),.func (.func 102) #[] #[ptr g7,ptr g4]]) Tryz.func163 J kL<|sC<|sM 132 #[ptr gr] (λa=>?_)
 refine sM 3 #[.int .i64 (most:Int)] (λb=>?_)
 refine sM 226 #[.func (.func 102) #[] #[ptr g7,ptr g4]] (λc=>?_)
 refine sP .nilFunc<|sA<|sP (.func (.func 199) #[] #[ptr a,ptr b,ptr c])<|sp J<|sG<|Sy.ret ?_
 exact Sy.retGM _ J (.inl (show _=_ by kernel_rfl)) (λ_ h=>h) ⟨a,b,c,rfl,rfl⟩
noncomputable def Rw:TypeInfo:=(Tryz.prog.info? 151).getD default
theorem EA:Tryz.prog.info? 151=some Rw:=kZ
def NC (p:Ps α) (rep:Rdr→List Value→α→Prop) (w0:Base) (S:AA) (m:Nat) (s1:RS) (v:Nat×List Value) (y:YL α):Prop:=∃ x,y.x=some x∧y.l.length=v.1∧RowsOk 151 122 rep y.r y.N y.l∧rep (rdB y.N) v.2 x∧v.2.length=122∧(∀ u∈v.2,u.oneCell'=true)∧v.1<1000000
def Jq (rep:Rdr→List Value→α→Prop) (y y':YL α):Prop:=∃ x r',y.x=some x∧RowsOk 151 122 rep r' y.N (y.l++[x])∧y'={ y with l:=y.l++[x],r:=r',x:=none }
theorem Lm (hm:BI rep) (hp:B4 61 122 ((([Value.int .i64 0]++((Z32++([Value.int .u32 0]))++(([Value.int .i64 0]++(([Value.bool false]++([Value.int .u64 0]++lPT ⟨0,0,false⟩))++([Value.slice none 0 0]++([Value.int .u64 0]++(Z32++(Cu.fws 0))))))++((Z32++([Value.slice none 0 0]++([Value.int .u32 0]++([Value.int .u32 0]++([Value.slice none 0 0]++([Value.slice none 0 0]))))))++([Value.slice none 0 0]))))))) rep p) (w0:Base) (fz:World) (gc gr gl g4 g7 a b c most:Nat) (hmost:most<1000000) (R S:AA) (s0:RS) (sl0:Value) (hS:∀ x∈S,x∈R) (h4:(g4,85,#[ptr gc])∈R) (h7:(g7,153,#[.func (.func 61) #[] #[]])∈R) (ha:(a,132,#[ptr gr])∈R) (hb:(b,3,#[.int .i64 (most:Int)])∈R) (hc:(c,226,#[.func (.func 102) #[] #[ptr g7,ptr g4]])∈R) (he:s0.e≤200) (hl:s0.rest.length≤70368744177664) (hv:BytR (rdC w0 S) sl0 s0.rest) (lp:Nat) (w:World) (hw:St (ib w0.world fz) w (LBL gc gr gl 23 nilS s0.e sl0 R []))
  (hY:∀ (v:Nat×List Value) (y:YL α) (W:World),(NC p rep w0 S 0 s0 v y)→St (ib w0.world fz) W (LBL gc gr gl 23 y.r y.s.e y.sl R y.N)→YieldAt Fence.wide 7 Tryz.prog lp #[.int .i64 (v.1:Int),.agg v.2.toArray] W (Fb w0.world fz (Jq rep y) (λy=>LBL gc gr gl 23 y.r y.s.e y.sl R y.N))) :
  CallsIn Fence.wide 8 Tryz.prog 199 #[.func (.yield lp) #[] #[],ptr a,ptr b,ptr c] w (Iw w0.world fz (λy:YL α=>∃ m s1,After (Dw most) s0 m s1∧s1.rest.length≤s0.rest.length∧y.l.length≤most∧InvL 151 122 rep p w0 S m s1 y.l.length y∧(y.s.e=0→y.l.length=m)) (λy=>LBL gc gr gl 23 y.r y.s.e y.sl R y.N)):=by
 refine Sy.enterI (args:=[.func (.yield lp) #[] #[],ptr a,ptr b,ptr c]) hw Tryz.func199 J kL<|sC<|sS (ptr gr) (AH (R:=R) (Aj ha) BH J BD)<|sS (.int .i64 (most:Int)) (AH (R:=R) (Aj hb) BH J uy3)<|Sy.callT (λw hw=>EH (ib w0.world fz) gr sl0 s0 ((gc,134,#[.pointer none,ptr gr,.bool false])::(gl,23,#[.slice none 0 0])::(R++[])) S (λx h=>List.mem_cons_of_mem _ (List.mem_cons_of_mem _ (List.mem_append_left _ (hS x h)))) most hmost he hv w (hw.perm swap12)) (λu M hM=>?_)
 obtain ⟨m,s1,sl1,hA1,⟨rfl,hm1⟩,hs1e,hs1r,hs1b,rfl⟩:=hM
 refine Sy.permS (M:=LBL gc gr gl 23 nilS s1.e sl1 R []) swap12.symm<|sp J<|sA<|sP (.int .i64 0)<|sG<|Sy.block<|Sy.loopT (Y:=YL α) m (λi y=>[(0,.func (.yield lp) #[] #[]),(1,ptr a),(2,ptr b),(3,ptr c),(5,.int .i64 (m:Int)),(6,.int .i64 (i:Int))]) (λi y=>LBL gc gr gl 23 y.r y.s.e y.sl R y.N) (λi y=>InvL 151 122 rep p w0 S m s1 i y) ⟨[],nilS,s1,sl1,[],none⟩ ⟨rfl,RowsOk.nil,λh=>⟨h,rfl⟩,λh=>.inl h,hs1e,Nat.le_refl _,hs1b⟩ ac6 (λ_ h=>h) (λi y hi hy=>?_)
 obtain ⟨l,r,s,sl,N,xo⟩:=y
 have hylen:l.length=i:=hy.len
 refine Sy.seq<|sC ?_
 obtain ⟨b1,hb1⟩:=xE (decide (i<m))
 refine sp J<|sp J<|sS (.bool b1) (qls J J J hb1)<|sp J ?_
 cases b1
 case' false =>
  have l1:=dN hb1
  obtain rfl:i=m:=om
  refine sN<|sN<|sN<|sP (.bool false)<|sG<|sU<|Sy.exit<|Sy.then_exit<|Sy.then_exit<|Sy.in_exit ?_
  exact Sy.retI J (λv w h=>⟨⟨_,rfl⟩,⟨l,r,s,sl,N,xo⟩,⟨i,s1,hA1,hs1r,by show l.length≤most; omega,by rw [show (⟨l,r,s,sl,N,xo⟩:YL α).l.length=i from hylen]; exact hy,λ_=>hylen⟩,h⟩) (.inr J)
 have l1:=dY hb1
 obtain ⟨b2,hb2⟩:=xE (decide (s.e=0))
 have hse:s.e≤200:=hy.e
 refine sS (ptr gr) (AH (R:=R) (Aj ha) BH J BD)<|sS (.int .i64 (s.e:Int)) (qg (λw hw=>Bc (ib w0.world fz) gr sl s.e [] (List.mem_cons_of_mem _ (List.mem_cons_self ..)) w hw))<|sS (.bool b2) (qeq J J J hb2)<|sP (.bool b2)<|sG ?_
 cases b2
 case' false =>
  have l2:=dN hb2
  refine sU<|Sy.exit<|Sy.then_exit<|Sy.then_exit<|Sy.in_exit ?_
  exact Sy.retI J (λv w h=>⟨⟨_,rfl⟩,⟨l,r,s,sl,N,xo⟩,⟨m,s1,hA1,hs1r,by show l.length≤most; omega,by rw [show (⟨l,r,s,sl,N,xo⟩:YL α).l.length=i from hylen]; exact hy,λh=>(l2 h).elim⟩,h⟩) (.inr J)
 have l2:=dY hb2
 obtain ⟨hs10,hrep⟩:=hy.yes l2
 refine sT<|Sy.skip<|Sy.then_<|Sy.seq<|Sy.block<|sC<|sS (.func (.func 102) #[] #[ptr g7,ptr g4]) (AH (R:=R) (Aj hc) BH J Tx)<|sS (ptr gr) (AH (R:=R) (Aj ha) BH J BD)<|Sy.callT (λw hw=>QO (rep:=rep) (p:=p) hm hp (ib w0.world fz) gc gr g4 g7 sl s ((gl,23,#[r.v])::(r.bl++(R++N))) S (λx h=>List.mem_cons_of_mem _ (List.mem_append_right _ (List.mem_append_left _ (hS x h)))) (List.mem_cons_of_mem _ (List.mem_append_right _ (List.mem_append_left _ h4))) (List.mem_cons_of_mem _ (List.mem_append_right _ (List.mem_append_left _ h7))) hse (Nat.le_trans (Nat.le_trans hy.rest hs1r) hl) hy.byt (ptr gr) w hw) (λu M hM=>?_)
 obtain ⟨x,s',sl',cs,N1,q1,q2,q3,q4,rfl,q5,q6,q7,rfl⟩:=hM
 obtain ⟨st1,st2⟩:=Eh hrep l2 q1
 refine sM 151 ((([Value.int .i64 0]++((Z32++([Value.int .u32 0]))++(([Value.int .i64 0]++(([Value.bool false]++([Value.int .u64 0]++lPT ⟨0,0,false⟩))++([Value.slice none 0 0]++([Value.int .u64 0]++(Z32++(Cu.fws 0))))))++((Z32++([Value.slice none 0 0]++([Value.int .u32 0]++([Value.int .u32 0]++([Value.slice none 0 0]++([Value.slice none 0 0]))))))++([Value.slice none 0 0]))))))).toArray (λgb=>?_)
 refine Sy.permS (M:=(gb,151,((([Value.int .i64 0]++((Z32++([Value.int .u32 0]))++(([Value.int .i64 0]++(([Value.bool false]++([Value.int .u64 0]++lPT ⟨0,0,false⟩))++([Value.slice none 0 0]++([Value.int .u64 0]++(Z32++(Cu.fws 0))))))++((Z32++([Value.slice none 0 0]++([Value.int .u32 0]++([Value.int .u32 0]++([Value.slice none 0 0]++([Value.slice none 0 0]))))))++([Value.slice none 0 0]))))))).toArray)::LBL gc gr gl 23 r s'.e sl' R (N++N1)) ((List.perm_append_comm (l₂:=[(gb,151,((([Value.int .i64 0]++((Z32++([Value.int .u32 0]))++(([Value.int .i64 0]++(([Value.bool false]++([Value.int .u64 0]++lPT ⟨0,0,false⟩))++([Value.slice none 0 0]++([Value.int .u64 0]++(Z32++(Cu.fws 0))))))++((Z32++([Value.slice none 0 0]++([Value.int .u32 0]++([Value.int .u32 0]++([Value.slice none 0 0]++([Value.slice none 0 0]))))))++([Value.slice none 0 0]))))))).toArray)])).trans (List.Perm.cons _ (List.Perm.of_eq (by simp only [List.cons_append,List.append_assoc,List.nil_append]; rfl))))<|sw 0 J cs.toArray (Writes.row 151 cs 122 _ _ J kR kR kR q2 kZ q3)<|Sy.nil<|Sy.then_ ?_
 have hR2:RowsOk 151 122 rep r (N++N1) l:=RowsOk.more (rep:=rep) hm hy.rows (λb h=>List.mem_append_left _ h)
 have hx2:rep (rdB (N++N1)) cs x:=hm (Ac λb h=>List.mem_append_right _ h) q4
 have drop1:∀ {w:World},St (ib w0.world fz) w ((gb,151,cs.toArray)::LBL gc gr gl 23 r s'.e sl' R (N++N1))→St (ib w0.world fz) w (LBL gc gr gl 23 r s'.e sl' R (N++N1)):=λh=>h.less (List.sublist_cons_self _ _)
 obtain ⟨b3,hb3⟩:=xE (decide (s'.e≠0))
 have inl:∀ b∈R,b∈(gb,151,cs.toArray)::LBL gc gr gl 23 r s'.e sl' R (N++N1):=λb h=>List.mem_cons_of_mem _ (BH b h)
 refine Sy.seq ?_
 cases b3
 case' true =>
  have l3:=dY hb3
  refine Sy.region<|sS (ptr gr) (AH (R:=R) (Aj ha) inl J BD)<|sS (.int .i64 (s'.e:Int)) (qg (λw hw=>Bc (ib w0.world fz) gr sl' s'.e [] (List.mem_cons_of_mem _ (List.mem_cons_of_mem _ (List.mem_cons_self ..))) w hw))<|sS (.bool true) (qne J J J hb3)<|sp J<|sN<|sN<|sN<|sN<|sN<|sP (.bool true)<|sG<|sT<|Sy.ret<|Sy.in_ret<|Sy.then_ret<|Sy.then_ret<|Sy.in_ret ?_
  exact Sy.retI J (λv w h=>⟨⟨_,rfl⟩,⟨l,r,s',sl',N++N1,none⟩,⟨m,s1,hA1,hs1r,by show l.length≤most; omega,⟨rfl,hR2,λh=>(l3 h).elim,λ_=>.inr (st2 l3 m l1),q5,Nat.le_trans q6 hy.rest,q7⟩,λh=>(l3 h).elim⟩,drop1 h⟩) (.inl J)
 have l3:s'.e=0:=Decidable.of_not_not (of_decide_eq_false hb3.symm)
 refine Sy.regionI 7 (by rintro ⟨_,_,⟨_,hv⟩,_⟩; cases hv) kR<|sS (ptr gr) (AH (R:=R) (Aj ha) inl rfl BD)<|sS (.int .i64 (s'.e:Int)) (qg (λw hw=>Bc (ib w0.world fz) gr sl' s'.e [] (List.mem_cons_of_mem _ (List.mem_cons_of_mem _ (List.mem_cons_self ..))) w hw))<|sS (.bool false) (qne rfl rfl rfl hb3)<|sp rfl<|sp rfl<|sp rfl<|sS (.agg cs.toArray) (Quiet.mid 0 gb 0 122 151 151 cs cs _ _ rfl kR rfl E8 rfl kR (by rw [List.drop_zero,List.take_of_length_le om]) om)<|Sy.nil<|Sy.yieldI (HR:=Jq rep ⟨l,r,s',sl',N++N1,some x⟩) (LR:=λy=>LBL gc gr gl 23 y.r y.s.e y.sl R y.N) rfl (by rintro ⟨_,_,⟨_,hv⟩,_⟩; cases hv) kR kR lp #[.int .i64 (i:Int),.agg cs.toArray] kF (λw hw=>hY (i,cs) ⟨l,r,s',sl',N++N1,some x⟩ w ⟨x,rfl,hylen,hR2,hx2,q2,q3,by show i<1000000; omega⟩ (drop1 hw)) (λy' hy'=>?_)
 obtain ⟨x',r',hx',hr',rfl⟩:=hy'
 obtain rfl:x=x':=by injection hx'
 refine sP (.bool false)<|sP (.bool false)<|sG<|sU<|Sy.skip<|Sy.in_<|Sy.then_<|Sy.region<|sp J<|sS (iZ (i+1)) (qad J J J)<|sp J<|Sy.nil ?_
 exact Sy.againT ⟨l++[x],r',s',sl',N++N1,none⟩ l1 ⟨by simp [hylen],hr',λ_=>⟨hs10,st1 l3⟩,λh=>(h l3).elim,q5,Nat.le_trans q6 hy.rest,q7⟩ ac6 (λw h=>h)
theorem KU (hm:BI rep) (hp:B4 61 122 ((([Value.int .i64 0]++((Z32++([Value.int .u32 0]))++(([Value.int .i64 0]++(([Value.bool false]++([Value.int .u64 0]++lPT ⟨0,0,false⟩))++([Value.slice none 0 0]++([Value.int .u64 0]++(Z32++(Cu.fws 0))))))++((Z32++([Value.slice none 0 0]++([Value.int .u32 0]++([Value.int .u32 0]++([Value.slice none 0 0]++([Value.slice none 0 0]))))))++([Value.slice none 0 0]))))))) rep p) (w0:Base) (gc gr g4 g7 most:Nat) (hmost:most<1000000) (sl0:Value) (s0:RS) (R S:AA) (hS:∀ x∈S,x∈R) (h4:(g4,85,#[ptr gc])∈R) (h7:(g7,153,#[.func (.func 61) #[] #[]])∈R) (he:s0.e≤200) (hl:s0.rest.length≤70368744177664) (hv:BytR (rdC w0 S) sl0 s0.rest) (w:World) (hw:St w0 w (CRN gc gr sl0 s0.e R)) :
  AL 101 #[ptr gr,.int .i64 (most:Int),.func (.func 102) #[] #[ptr g7,ptr g4]] w (AQ w0 (RdL 122 rep (Cz most p) w0 gc gr s0 R S)):=by
 refine Sy.enterTM (args:=[ptr gr,.int .i64 (most:Int),.func (.func 102) #[] #[ptr g7,ptr g4]]) hw Tryz.func101 J kL<|sC<|sP (.slice none 0 0)<|sA<|sM 23 #[.slice none 0 0] (λgl=>?_)
 refine sG<|Sy.seq<|sC<|sp J<|sp J<|sp J<|Sy.callN kR 163 #[ptr gr,.int .i64 (most:Int),.func (.func 102) #[] #[ptr g7,ptr g4]] kF _ (λw _=>KZ w gr most g4 g7) (λv M hM=>?_)
 obtain ⟨a,b,c,rfl,rfl⟩:=hM
 refine Sy.nil<|Sy.then_<|Sy.block ?_
 obtain ⟨R1,hR1⟩:=xE (R++[(a,132,#[ptr gr]),(b,3,#[.int .i64 (most:Int)]),(c,226,#[.func (.func 102) #[] #[ptr g7,ptr g4]])])
 refine Sy.permC (M:=LBL gc gr gl 23 nilS s0.e sl0 R1 []) (by rw [hR1]; exact Hn) ?_
 have mR:∀ x∈R,x∈R1:=λx hx=>by rw [hR1]; exact List.mem_append_left _ hx
 have ma:(a,132,#[ptr gr])∈R1:=by rw [hR1]; simp
 have mb:(b,3,#[.int .i64 (most:Int)])∈R1:=by rw [hR1]; simp
 have mc:(c,226,#[.func (.func 102) #[] #[ptr g7,ptr g4]])∈R1:=by rw [hR1]; simp
 refine Sy.rangeT (α:=Nat×List Value) (Y:=YL α) (Z:=Nat) 199 #[ptr a,ptr b,ptr c] kR kR (enters_of Tryz.func199 kR J) (λv=>#[.int .i64 (v.1:Int),.agg v.2.toArray]) (λ_=>rfl) dZ
  (NC p rep w0 S 0 s0) (λ_ y=>LBL gc gr gl 23 y.r y.s.e y.sl R1 y.N) (λ_ _ z=>[(7,ptr gl),(9,ptr z)]) (λv y z=>(z,151,v.2.toArray)::LBL gc gr gl 23 y.r y.s.e y.sl R1 y.N) (λ_ y=>Jq rep y) (λy=>LBL gc gr gl 23 y.r y.s.e y.sl R1 y.N)
  (λy:YL α=>∃ m s1,After (Dw most) s0 m s1∧s1.rest.length≤s0.rest.length∧y.l.length≤most∧InvL 151 122 rep p w0 S m s1 y.l.length y∧(y.s.e=0→y.l.length=m)) (λy=>LBL gc gr gl 23 y.r y.s.e y.sl R1 y.N) ?_ ?_ ?_ ?_
 ·exact λlp fz w hw hY=>Lm (rep:=rep) (p:=p) hm hp w0 fz gc gr gl g4 g7 a b c most hmost R1 S s0 sl0 (λx h=>mR x (hS x h)) (mR _ h4) (mR _ h7) ma mb mc he hl hv lp w hw hY
 ·rintro lp fz ⟨i,cs⟩ ⟨l,r,s,sl,N,xo⟩ ⟨x,rfl,_,_,_,c1,c2,_⟩
  dsimp only at c1 c2 ⊢
  refine Sy.regionR (by rintro ⟨_,_,h⟩; exact h) kR ⟨_,rfl⟩<|sM 151 ((([Value.int .i64 0]++((Z32++([Value.int .u32 0]))++(([Value.int .i64 0]++(([Value.bool false]++([Value.int .u64 0]++lPT ⟨0,0,false⟩))++([Value.slice none 0 0]++([Value.int .u64 0]++(Z32++(Cu.fws 0))))))++((Z32++([Value.slice none 0 0]++([Value.int .u32 0]++([Value.int .u32 0]++([Value.slice none 0 0]++([Value.slice none 0 0]))))))++([Value.slice none 0 0]))))))).toArray (λz=>?_)
  refine Sy.permS (M:=(z,151,((([Value.int .i64 0]++((Z32++([Value.int .u32 0]))++(([Value.int .i64 0]++(([Value.bool false]++([Value.int .u64 0]++lPT ⟨0,0,false⟩))++([Value.slice none 0 0]++([Value.int .u64 0]++(Z32++(Cu.fws 0))))))++((Z32++([Value.slice none 0 0]++([Value.int .u32 0]++([Value.int .u32 0]++([Value.slice none 0 0]++([Value.slice none 0 0]))))))++([Value.slice none 0 0]))))))).toArray)::LBL gc gr gl 23 r s.e sl R1 N) (List.perm_append_comm (l₂:=[(z,151,((([Value.int .i64 0]++((Z32++([Value.int .u32 0]))++(([Value.int .i64 0]++(([Value.bool false]++([Value.int .u64 0]++lPT ⟨0,0,false⟩))++([Value.slice none 0 0]++([Value.int .u64 0]++(Z32++(Cu.fws 0))))))++((Z32++([Value.slice none 0 0]++([Value.int .u32 0]++([Value.int .u32 0]++([Value.slice none 0 0]++([Value.slice none 0 0]))))))++([Value.slice none 0 0]))))))).toArray)]))<|sw 0 J cs.toArray (Writes.row 151 cs 122 _ _ J kR kR kR c1 kZ c2)<|Sy.nil ?_
  exact apZ z ac2 (λ_ h=>h)
 ·rintro lp fz ⟨i,cs⟩ ⟨l,r,s,sl,N,xo⟩ z ⟨x,rfl,hli,⟨xs,x1,x2,x3⟩,hx,c1,c2,hi⟩
  dsimp only at c1 c2 hli x1 x2 x3 hx hi ⊢
  refine Sy.block<|Sy.regionR (by rintro ⟨_,_,h⟩; exact h) kR ⟨_,rfl⟩<|sS r.v (qc 3 0 rfl rfl EM)<|sS (.agg cs.toArray) (Quiet.mid 0 z 0 122 151 151 cs cs _ _ rfl kR rfl E8 rfl kR (by rw [List.drop_zero,List.take_of_length_le om]) om)<|Sy.make kR 151 cs.toArray (λg=>.slice (pA g) 1 1) (Makes.one 23 151 _ _ 122 _ cs rfl kR EM EA rfl rfl c1 dZ dZ) (λg8=>?_)
  refine Sy.permS (M:=[(z,151,cs.toArray),(gc,134,#[.pointer none,ptr gr,.bool false]),(gr,253,#[sl,.int .i64 (s.e:Int)]),(gl,23,#[r.v]),(g8,151,cs.toArray)]++(r.bl++(R1++N))) (Sy.flat_perm (ls:=[[(z,151,cs.toArray),(gc,134,#[.pointer none,ptr gr,.bool false]),(gr,253,#[sl,.int .i64 (s.e:Int)]),(gl,23,#[r.v])],r.bl++(R1++N),[(g8,151,cs.toArray)]]) (ms:=[[(z,151,cs.toArray),(gc,134,#[.pointer none,ptr gr,.bool false]),(gr,253,#[sl,.int .i64 (s.e:Int)]),(gl,23,#[r.v])],[(g8,151,cs.toArray)],r.bl++(R1++N)]) [0,2,1] kZ (by rfl) (by simp) (by simp))<|Sy.appendR kR 23 151 _ _ 122 376 EM EA J J J J dZ _ _ J x1 kR cs c1 c2 4 g8 151 kR kR om (by simp only [maxLen]; omega) (λr' hr'=>?_)
  refine sw 3 J #[r'.v] (Writes.one 0 23 r'.v _ _ J kR kR kR hr'.cells.1 hr'.cells.2 Nat.zero_lt_one kR)<|Sy.setT<|Sy.nil<|Sy.in_ ?_
  exact bpZ ⟨l++[x],r',s,sl,N,none⟩ ⟨x,r',rfl,RowsOk.add (rep:=rep) x2 x3 hr' hx,rfl⟩ (λw h=>Sy.St.parts (ls:=[[(z,151,cs.toArray)],[(gc,134,#[.pointer none,ptr gr,.bool false]),(gr,253,#[sl,.int .i64 (s.e:Int)]),(gl,23,#[r'.v])],[(g8,151,cs.toArray)],r'.bl++(R1++N)]) (ms:=[[(gc,134,#[.pointer none,ptr gr,.bool false]),(gr,253,#[sl,.int .i64 (s.e:Int)]),(gl,23,#[r'.v])],r'.bl++(R1++N)]) [[(z,151,cs.toArray)],[(g8,151,cs.toArray)]] [1,3,0,2] kZ (by rfl) (by simp) (by simp) h)
 ·rintro D fz ⟨l,r,s,sl,N,xo⟩ ⟨m,s1,hA1,hs1,hlm,hI,hdn⟩ hD hD2 hmk h0
  dsimp only at hI hdn hlm ⊢
  have hse:s.e≤200:=hI.e
  have hrest:s.rest.length≤s0.rest.length:=Nat.le_trans hI.rest hs1
  refine Sy.in_<|Sy.then_<|Sy.seq<|sC ?_
  obtain ⟨b1,hb1⟩:=xE (decide (s.e≠0))
  refine sp J<|sS (.int .i64 (s.e:Int)) (qg (λw hw=>Bc (ab w0.world fz D) gr sl s.e [] (List.mem_cons_of_mem _ (List.mem_cons_self ..)) w hw))<|sS (.bool b1) (qne J J J hb1)<|sG ?_
  cases b1
  ·have l1:s.e=0:=Decidable.of_not_not (of_decide_eq_false hb1.symm)
   obtain ⟨z1,z2⟩:=hI.yes l1
   rw [hdn l1] at z2
   refine sU<|Sy.skip<|sB<|sS r.v (qc 2 0 J J EM)<|sp J<|sG<|Sy.ret<|Sy.retTM1 (b0:=w0) (M:=CRN gc gr sl s.e (R++(N++r.bl))) J (.inl (show _=_ by kernel_rfl)) (λw h=>Sy.St.parts (ls:=[[(gc,134,#[.pointer none,ptr gr,.bool false]),(gr,253,#[sl,.int .i64 (s.e:Int)])],[(gl,23,#[r.v])],r.bl,R,[(a,132,#[ptr gr]),(b,3,#[.int .i64 (most:Int)]),(c,226,#[.func (.func 102) #[] #[ptr g7,ptr g4]])],N]) (ms:=[[(gc,134,#[.pointer none,ptr gr,.bool false]),(gr,253,#[sl,.int .i64 (s.e:Int)])],R,N,r.bl]) [[(gl,23,#[r.v])],[(a,132,#[ptr gr]),(b,3,#[.int .i64 (most:Int)]),(c,226,#[.func (.func 102) #[] #[ptr g7,ptr g4]])]] [0,3,5,2,1,4] kZ (by rfl) (by rw [hR1]; simp) (by simp) h) ⟨l,s,sl,N++r.bl,hA1.bind ⟨λh=>(h z1).elim,λy q _ hy=>?_,λ_ hy=>?_⟩,RowsOk.lst (rep:=rep) hm hI.rows,hse,hrest,hI.byt,rfl⟩ hD hD2 hmk h0.out
   ·rw [z2] at hy
    cases hy
    exact ⟨rfl,by rw [← l1]⟩
   ·rw [z2] at hy; cases hy
  ·have l1:=dY hb1
   refine sT<|sC<|sP (.slice none 0 0)<|sG<|Sy.ret<|Sy.then_ret<|Sy.retTM1 (b0:=w0) (M:=CRN gc gr sl s.e (R++[])) J (.inl (show _=_ by kernel_rfl)) (λw h=>Sy.St.parts (ls:=[[(gc,134,#[.pointer none,ptr gr,.bool false]),(gr,253,#[sl,.int .i64 (s.e:Int)])],[(gl,23,#[r.v])],r.bl,R,[(a,132,#[ptr gr]),(b,3,#[.int .i64 (most:Int)]),(c,226,#[.func (.func 102) #[] #[ptr g7,ptr g4]])],N]) (ms:=[[(gc,134,#[.pointer none,ptr gr,.bool false]),(gr,253,#[sl,.int .i64 (s.e:Int)])],R]) [[(gl,23,#[r.v])],r.bl,[(a,132,#[ptr gr]),(b,3,#[.int .i64 (most:Int)]),(c,226,#[.func (.func 102) #[] #[ptr g7,ptr g4]])],N] [0,3,1,2,4,5] kZ (by rfl) (by rw [hR1]; simp) (by simp) h) ⟨[],s,sl,[],hA1.bind ⟨λ_=>l1,λy q h1 hy=>?_,λ_ _=>l1⟩,⟨none,0,0,rfl,rfl,Nat.le_refl _,Nat.zero_le _,λh=>(h J).elim⟩,hse,hrest,hI.byt,rfl⟩ hD hD2 hmk h0.out
   rcases hI.no l1 with h | h
   ·exact (h h1).elim
   ·rw [h] at hy; cases hy
theorem Lg (hm:BI rep) (hp:B4 61 122 ((([Value.int .i64 0]++((Z32++([Value.int .u32 0]))++(([Value.int .i64 0]++(([Value.bool false]++([Value.int .u64 0]++lPT ⟨0,0,false⟩))++([Value.slice none 0 0]++([Value.int .u64 0]++(Z32++(Cu.fws 0))))))++((Z32++([Value.slice none 0 0]++([Value.int .u32 0]++([Value.int .u32 0]++([Value.slice none 0 0]++([Value.slice none 0 0]))))))++([Value.slice none 0 0]))))))) rep p) (w0:Base) (gc gr gx f most:Nat) (hmost:most<1000000) (tx:TypeId) (A Z:List Value) (sl:Value) (s:RS) (R S:AA) (hS:∀ b∈S,b∈R) (hA:A.length=f) (he:s.e≤200) (hl:s.rest.length≤70368744177664) (hv:BytR (rdC w0 S) sl s.rest) (w:World) (hw:St w0 w (CRS gc gr gx tx (A++([Value.slice none 0 0]++Z)) sl s.e R)) :
  AL 60 #[ptr gc,pT gx f,.int .i64 (most:Int),.func (.func 61) #[] #[]] w (AQ w0 (RdT 1 (Na 122 rep) (Cz most p) w0 gc gr gx tx A Z s R S)):=by
 refine Sy.enterT (args:=[ptr gc,pT gx f,.int .i64 (most:Int),.func (.func 61) #[] #[]]) hw Tryz.func60 J kL<|sC<|sM 85 #[ptr gc] (λg4=>?_)
 refine sM 153 #[.func (.func 61) #[] #[]] (λg7=>?_)
 obtain ⟨R1,hR1⟩:=xE (R++([(g4,85,#[ptr gc])]++[(g7,153,#[.func (.func 61) #[] #[]])]))
 refine Sy.permS (M:=CRS gc gr gx tx (A++([Value.slice none 0 0]++Z)) sl s.e R1) (List.Perm.of_eq (by rw [hR1]; simp)) ?_
 have mR:∀ x∈R,x∈R1:=λx hx=>by rw [hR1]; exact List.mem_append_left _ hx
 have m4:(g4,85,#[ptr gc])∈R1:=by rw [hR1]; simp
 have m7:(g7,153,#[.func (.func 61) #[] #[]])∈R1:=by rw [hR1]; simp
 refine sG<|Sy.seq<|sC<|sS (ptr gc) (AH (R:=R1) (Aj m4) Dh J CA)<|sS (.bool true) (qg (λw hw=>CL w0.inn gc gr _ _ (List.mem_cons_self ..) w hw))<|sG<|sT<|sC<|sp J<|sS (ptr gc) (AH (R:=R1) (Aj m4) Dh J CA)<|sp J<|sP (pT gc 1)<|sS (ptr gr) (qc 0 1 J J BD)<|sp J<|sP (.func (.func 102) #[] #[ptr g7,ptr g4])<|Sy.callT (λw hw=>KU (rep:=rep) (p:=p) hm hp w0.inn gc gr g4 g7 most hmost sl s ((gx,tx,(A++([Value.slice none 0 0]++Z)).toArray)::R1) S (λx h=>List.mem_cons_of_mem _ (mR x (hS x h))) (List.mem_cons_of_mem _ m4) (List.mem_cons_of_mem _ m7) he hl hv w (hw.perm BU)) (λv M hM=>?_)
 obtain ⟨l,s',sl',N,q1,q2,q3,q4,q5,rfl⟩:=hM
 refine Sy.permS (M:=CRS gc gr gx tx (A++([Value.slice none 0 0]++Z)) sl' s'.e (R1++N)) BU<|sp J<|sw 1 J (A++([v]++Z)).toArray (Writes.one f 23 v _ _ J kR kR kR q2.cells.1 q2.cells.2 (by rw [List.size_toArray,List.length_append,hA]; exact Nat.lt_add_of_pos_right (Nat.succ_pos _)) (Aq hA))<|sG<|Sy.ret<|Sy.then_ret ?_
 exact Sy.retT0 J (CRS gc gr gx tx (A++([v]++Z)) sl' s'.e (R++N)) (λw h=>Sy.St.parts (ls:=[[(gc,134,#[.pointer none,ptr gr,.bool false]),(gx,tx,(A++([v]++Z)).toArray),(gr,253,#[sl',.int .i64 (s'.e:Int)])],R,[(g4,85,#[ptr gc])]++[(g7,153,#[.func (.func 61) #[] #[]])],N]) (ms:=[[(gc,134,#[.pointer none,ptr gr,.bool false]),(gx,tx,(A++([v]++Z)).toArray),(gr,253,#[sl',.int .i64 (s'.e:Int)])],R,N]) [[(g4,85,#[ptr gc])]++[(g7,153,#[.func (.func 61) #[] #[]])]] [0,1,3,2] kZ (by rfl) (by rw [hR1]; simp) (by simp) h) (λ_=>⟨l,s',sl',[v],N,q1,rfl,λu hu=>by rw [List.mem_singleton.1 hu]; exact q2.cells.2,⟨v,rfl,q2⟩,q3,q4,q5,rfl⟩)
end
theorem Un:DK 28 3 Cy Dx Dp FJ:=λw0 gc gw gx f bad s R b cs x hx _ hc hb hl w hw=>by
 obtain ⟨af,is,os⟩:=x
 obtain ⟨vi,vo,rfl,h1,h2,h3⟩:=hx
 dsimp only at h1 h2 h3
 unfold FJ at hl
 dsimp only at hl
 have c0:XAt (rdC w0 R) gx f ([uZ (af:Int)]++([vi]++[vo])):=hc
 have c1:XAt (rdC w0 R) gx (f+1) ([vi]++[vo]):=c0.right (n:=1) rfl
 have c2:XAt (rdC w0 R) gx (f+2) [vo]:=c1.right (n:=1) rfl
 refine Sy.enterT (args:=[ptr gc,pT gx f]) hw Tryz.func28 J kL<|sC<|sp J<|sp J<|sp J<|sP (pT gx f)<|Sy.callT (λw hw=>H2 w0.inn gc gw gx f bad s R b af h1 c0.one hb om w hw) (λu M hM=>?_)
 obtain ⟨s1,bad1,b1,q1,p1,rfl⟩:=hM
 have l1:b1.length≤b.length+8:=q1.len
 refine sA<|sp J<|sp J<|sp J<|sP (pT gx (f+1))<|Sy.callT (λw hw=>Lc (rep:=CT) En Uy w0.inn gc gw gx (f+1) 16 dZ bad1 s1 R b1 vi is h2 c1.one p1 om w hw) (λu M hM=>?_)
 obtain ⟨s2,bad2,b2,q2,p2,rfl⟩:=hM
 have l2:b2.length≤b1.length+(9+(is.map Dg).sum):=q2.len
 refine Sy.nil<|Sy.then_<|Sy.region<|sp J<|sp J<|sp J<|sP (pT gx (f+2))<|Sy.callT (λw hw=>Lb (rep:=Cf) Em UI w0.inn gc gw gx (f+2) 16 dZ bad2 s2 R b2 vo os h3 c2.one p2 om w hw) (λu M hM=>?_)
 obtain ⟨s3,bad3,b3,q3,p3,rfl⟩:=hM
 have l3:b3.length≤b2.length+(9+(os.map Dv).sum):=q3.len
 refine Sy.nil ?_
 have q:=q1.then_ (q2.then_ q3)
 simp only [Bool.true_and] at q
 exact Sy.retT0 J (CWS gc gw bad3 s3 R) (λ_ h=>h) (λ_=>⟨s3,bad3,b3,q,p3,rfl⟩)
theorem Uo:B4 28 3 ([Value.int .u64 0]++([Value.slice none 0 0]++([Value.slice none 0 0]))) Cy JH:=λw0 gc gr gx f tx A Z sl s R S hS hA he hl hv w hw=>by
 refine Sy.enterT (args:=[ptr gc,pT gx f]) hw Tryz.func28 J kL<|sC<|sp J<|sp J<|sp J<|sP (pT gx f)<|Sy.callT (λw hw=>H3 w0.inn gc gr gx f tx A ([Value.slice none 0 0]++([Value.slice none 0 0]++Z)) sl s R S hS hA he hl hv w (by simpa only [List.append_assoc] using hw)) (λu M hM=>?_)
 obtain ⟨x1,s1,sl1,cs1,N1,a1,n1,o1,⟨rfl,r1⟩,e1,h1,y1,rfl⟩:=hM
 have g1:s1.rest.length≤s.rest.length:=h1
 have A1:(A++[Value.int .u64 (x1:Int)]).length=f+1:=by rw [List.length_append,hA,n1]
 refine sA<|sp J<|sp J<|sp J<|sP (pT gx (f+1))<|Sy.callT (λw hw=>Lg (rep:=CT) (p:=EY) En Uz w0.inn gc gr gx (f+1) 16 dZ tx (A++[Value.int .u64 (x1:Int)]) ([Value.slice none 0 0]++Z) sl1 s1 (R++N1) S (λb h=>List.mem_append_left _ (hS b h)) A1 e1 (Nat.le_trans g1 hl) y1 w (by have e:A++[Value.int .u64 (x1:Int)]++([Value.slice none 0 0]++([Value.slice none 0 0]++Z))=A++([Value.int .u64 (x1:Int)]++([Value.slice none 0 0]++([Value.slice none 0 0]++Z))):=List.append_assoc ..; rw [e]; exact hw)) (λu M hM=>?_)
 obtain ⟨x2,s2,sl2,cs2,N2,a2,n2,o2,⟨v2,rfl,r2⟩,e2,h2,y2,rfl⟩:=hM
 have g2:s2.rest.length≤s.rest.length:=Nat.le_trans h2 g1
 have A2:(A++[Value.int .u64 (x1:Int)]++[v2]).length=f+2:=by rw [List.length_append,A1,n2]
 refine Sy.nil<|Sy.then_<|Sy.region<|sp J<|sp J<|sp J<|sP (pT gx (f+2))<|Sy.callT (λw hw=>Lf (rep:=Cf) (p:=GM) Em UJ w0.inn gc gr gx (f+2) 16 dZ tx (A++[Value.int .u64 (x1:Int)]++[v2]) Z sl2 s2 (R++N1++N2) S (λb h=>List.mem_append_left _ (List.mem_append_left _ (hS b h))) A2 e2 (Nat.le_trans g2 hl) y2 w (by have e:A++[Value.int .u64 (x1:Int)]++[v2]++([Value.slice none 0 0]++(Z))=A++[Value.int .u64 (x1:Int)]++([v2]++([Value.slice none 0 0]++(Z))):=List.append_assoc ..; rw [e]; exact hw)) (λu M hM=>?_)
 obtain ⟨x3,s3,sl3,cs3,N3,a3,n3,o3,⟨v3,rfl,r3⟩,e3,h3,y3,rfl⟩:=hM
 have g3:s3.rest.length≤s.rest.length:=Nat.le_trans h3 g2
 have A3:(A++[Value.int .u64 (x1:Int)]++[v2]++[v3]).length=f+3:=by rw [List.length_append,A2,n3]
 refine Sy.nil ?_
 have hAf:After JH s ⟨x1,x2,x3⟩ s3:=a1.bind (a2.bind (a3.bind (After.ret _ _)))
 have hLn:([Value.int .u64 (x1:Int)]++([v2]++([v3]))).length=3:=by rfl
 have hOn:∀ u∈([Value.int .u64 (x1:Int)]++([v2]++([v3]))),u.oneCell'=true:=AG o1 (AG o2 (o3))
 have hRp:Cy (rdB (N1++(N2++(N3)))) ([Value.int .u64 (x1:Int)]++([v2]++([v3]))) ⟨x1,x2,x3⟩:=⟨v2,v3,rfl,r1,LstR.le (rep:=CT) En (Ac λb h=>by simp [h]) r2,LstR.le (rep:=Cf) Em (Ac λb h=>by simp [h]) r3⟩
 exact Sy.retT0 J (CRS gc gr gx tx (A++(([Value.int .u64 (x1:Int)]++([v2]++([v3])))++Z)) sl3 s3.e (R++(N1++(N2++(N3))))) (λ_ h=>by simpa only [List.append_assoc,List.cons_append,List.nil_append] using h) (λ_=>⟨_,s3,sl3,_,_,hAf,hLn,hOn,hRp,e3,g3,y3,rfl⟩)
theorem NF {α:Type} {rep:Rdr→List Value→α→Prop} {ok:α→Bool} {enc:α→Byt} {wt:α→Nat} (hm:BI rep) (hp:DK 28 3 rep ok enc wt) (w:World) (cs:List Value) (x:α) (hx:rep (rdW w) cs x) (hl:cs.length=3) (hwt:wt x≤70368744170000) :
  AL 27 #[.agg cs.toArray,.func (.func 28) #[] #[]] w (A0 w (BytE (ok x) (enc x))):=by
 refine Sy.enter (args:=[.agg cs.toArray,.func (.func 28) #[] #[]]) Tryz.func27 J kL<|sC<|sM 26 cs.toArray (λgx=>?_) kR (λw=>An J J kZ hl w)
 refine sP (.slice none 0 0)<|sP (.int .i64 0)<|sA<|Sy.callN kR 57 #[] kF _ (λw _=>JW w) (λv M hM=>?_)
 obtain ⟨gw,rfl,rfl⟩:=hM
 refine sP (.agg #[ptr gw,.pointer none,.bool false])<|sM 134 #[ptr gw,.pointer none,.bool false] (λgc=>?_)
 refine sp J<|sA<|Sy.permS (M:=CWS gc gw false nilS [(gx,26,cs.toArray)]) (Sy.perm_at [2,1,0] kZ (by rfl))<|sp J<|sp J<|Sy.callT (λw' hw=>hp (Base.of w) gc gw gx 0 false nilS [(gx,26,cs.toArray)] [] cs x (hm D5 hx) hl (FM (List.mem_singleton.2 J)) BS.nil (by show 0+_≤_; omega) w' hw) (λv M hM=>?_)
 obtain ⟨s,bad,b,q1,q2,rfl⟩:=hM
 have hbl:b.length≤wt x:=by have:=q1.len; simpa using this
 refine sG<|Sy.seq<|sC<|sp J<|sp J<|sP (pT gc 2)<|sS (.bool bad) (qc 0 2 J J uy4)<|sG ?_
 cases bad
 ·have hok:ok x=true:=by
   have e:=q1.bad
   cases h:ok x with
   | true=>rfl
   | false=>rw [h] at e; cases e
  obtain rfl:b=enc x:=by have:=q1.bytes rfl; simpa using this
  refine sU<|Sy.skip<|sB<|sp J<|sp J<|sP (pT gc 0)<|sS (ptr gw) (qc 0 0 J J D0)<|Sy.callT (λw' hw=>bytes_any (Base.of w) gw s ((gc,134,#[ptr gw,.pointer none,.bool false])::[(gx,26,cs.toArray)]) (enc x) q2 om w' (hw.perm permCW)) (λv M hM=>?_)
  obtain ⟨N,hN,rfl⟩:=hM
  refine sp J<|sP (.int .i64 0)<|sG<|Sy.ret ?_
  exact Sy.retGM2 N J (.inl (show _=_ by kernel_rfl)) (.inl (show _=_ by kernel_rfl)) (λ_ h=>h.less (List.sublist_append_right _ _)) (.inl ⟨hok,v,rfl,hN⟩)
 ·have hok:ok x=false:=by
   have e:=q1.bad
   cases h:ok x with
   | false=>rfl
   | true=>rw [h] at e; cases e
  refine sT<|sC<|sP (.slice none 0 0)<|sP (.int .i64 120)<|sG<|Sy.ret<|Sy.then_ret ?_
  exact Sy.retGM2 [] rfl (.inl (show _=_ by kernel_rfl)) (.inl (show _=_ by kernel_rfl)) (λ_ h=>h.none) (.inr ⟨hok,rfl,rfl⟩)
theorem Tg {α:Type} {rep:Rdr→List Value→α→Prop} {ok:α→Bool} {enc:α→Byt} {wt:α→Nat} (hm:BI rep) (hp:DK 28 3 rep ok enc wt) (w:World) (cs:List Value) (x:α) (hx:rep (rdW w) cs x) (hl:cs.length=3) (hwt:wt x≤70368744170000) :
  AL 7 #[.agg cs.toArray] w (A0 w (BytE (ok x) (enc x))):=by
 refine Sy.enter (args:=[.agg cs.toArray]) Tryz.func7 J kL ?_
 refine sC<|sM 26 cs.toArray (λgx=>?_) kR (λw=>An J J kZ hl w)
 refine sP (.slice none 0 0)<|sP (.int .i64 0)<|sA<|sS (.agg cs.toArray) (Bd (R:=[(gx,26,cs.toArray)]) (FM (List.mem_singleton.2 J)) (λ_ h=>h) hl J EX)<|Sy.callN kR 27 #[.agg cs.toArray,.func (.func 28) #[] #[]] kF (BytE (ok x) (enc x)) (λw' hw=>NF (rep:=rep) hm hp w' cs x (hm (λg o u h=>Aa (R:=[]) hw (λ_ h=>by cases h) g o u (.inl h)) hx) hl hwt) (λv M hM=>?_)
 have hv:∃ a e:Value,v=.tuple #[a,e]:=by
  rcases hM with ⟨_,u,rfl,_⟩ | ⟨_,rfl,_⟩ <;> exact ⟨_,_,rfl⟩
 obtain ⟨a,e,rfl⟩:=hv
 refine sp J<|sp J<|sp J<|sp J<|sG<|Sy.ret ?_
 exact Sy.retGM2 M J (.inl (show _=_ by kernel_rfl)) (.inl (show _=_ by kernel_rfl)) (λ_ h=>h.less (List.sublist_append_right _ _)) hM
theorem O9 {α:Type} {rep:Rdr→List Value→α→Prop} {p:Ps α} (hm:BI rep) (hp:B4 28 3 ([Value.int .u64 0]++([Value.slice none 0 0]++([Value.slice none 0 0]))) rep p) (w:World) (v:Value) (b:Byt) (hv:BytR (rdW w) v b) (hl:b.length≤70368744177664) :
  AL 31 #[v,.func (.func 28) #[] #[]] w (A0 w (RdE 3 ([Value.int .u64 0]++([Value.slice none 0 0]++([Value.slice none 0 0]))) rep (GG p b))):=by
 refine Sy.enter (args:=[v,.func (.func 28) #[] #[]]) Tryz.func31 J kL<|sC<|sM 26 ([Value.int .u64 0]++([Value.slice none 0 0]++([Value.slice none 0 0]))).toArray (λg4=>?_)
 refine sP (.int .i64 0)<|sA<|sM 26 ([Value.int .u64 0]++([Value.slice none 0 0]++([Value.slice none 0 0]))).toArray (λg6=>?_)
 refine sM 26 ([Value.int .u64 0]++([Value.slice none 0 0]++([Value.slice none 0 0]))).toArray (λg7=>?_)
 refine sA<|sp J<|Sy.callN kR 67 #[v] kF _ (λw' hw=>read_any w' v b (hv.at hw) hl) (λu M hM=>?_)
 obtain ⟨gr,sl,N0,hN0,rfl,rfl⟩:=hM
 refine sP (.agg #[.pointer none,ptr gr,.bool false])<|sM 134 #[.pointer none,ptr gr,.bool false] (λgc=>?_)
 refine Sy.permS (M:=CRS gc gr g6 26 ([]++(([Value.int .u64 0]++([Value.slice none 0 0]++([Value.slice none 0 0])))++[])) sl 0 ((g4,26,([Value.int .u64 0]++([Value.slice none 0 0]++([Value.slice none 0 0]))).toArray)::(g7,26,([Value.int .u64 0]++([Value.slice none 0 0]++([Value.slice none 0 0]))).toArray)::N0)) (Sy.flat_perm (ls:=[[(g4,26,([Value.int .u64 0]++([Value.slice none 0 0]++([Value.slice none 0 0]))).toArray)],[(g6,26,([Value.int .u64 0]++([Value.slice none 0 0]++([Value.slice none 0 0]))).toArray)],[(g7,26,([Value.int .u64 0]++([Value.slice none 0 0]++([Value.slice none 0 0]))).toArray)],[(gr,253,#[sl,.int .i64 0])],N0,[(gc,134,#[.pointer none,ptr gr,.bool false])]]) (ms:=[[(gc,134,#[.pointer none,ptr gr,.bool false])],[(g6,26,([Value.int .u64 0]++([Value.slice none 0 0]++([Value.slice none 0 0]))).toArray)],[(gr,253,#[sl,.int .i64 0])],[(g4,26,([Value.int .u64 0]++([Value.slice none 0 0]++([Value.slice none 0 0]))).toArray)],[(g7,26,([Value.int .u64 0]++([Value.slice none 0 0]++([Value.slice none 0 0]))).toArray)],N0]) [5,1,3,0,2,4] kZ (by rfl) (by simp) (by simp))<|sp J<|sA<|sp J<|sp J<|Sy.callT (λw' hw=>hp (Base.of w) gc gr g6 0 26 [] [] sl ⟨b,0⟩ ((g4,26,([Value.int .u64 0]++([Value.slice none 0 0]++([Value.slice none 0 0]))).toArray)::(g7,26,([Value.int .u64 0]++([Value.slice none 0 0]++([Value.slice none 0 0]))).toArray)::N0) N0 (λx h=>List.mem_cons_of_mem _ (List.mem_cons_of_mem _ h)) J (Nat.zero_le _) hl (hN0.byt.le Hf) w' hw) (λu M hM=>?_)
 obtain ⟨x,s',sl',cs,N,q1,q2,q3,q4,q5,q6,q7,rfl⟩:=hM
 rw [List.append_nil]
 obtain ⟨o1,o2⟩:=L_ q1
 obtain ⟨e,hE⟩:=xE (if s'.e=0∧0<s'.rest.length then 113 else s'.e)
 have hEl:e≤200:=by rw [hE]; split <;> omega
 refine sG<|Sy.seq<|sC ?_
 obtain ⟨b1,hb1⟩:=xE (decide (e≠0))
 refine sp J<|sp J<|sP (pT gc 1)<|sS (ptr gr) (qc 0 1 J J BD)<|sS (.int .i64 (e:Int)) (qg (λw' hw=>by rw [hE]; exact Mt (Base.of w) gr sl' s' N0 q5 q7 (List.mem_cons_of_mem _ (List.mem_cons_of_mem _ (List.mem_cons_self ..))) w' hw))<|sS (.bool b1) (qne J J J hb1)<|sG ?_
 cases b1
 ·have l1:e=0:=Decidable.of_not_not (of_decide_eq_false hb1.symm)
  have l2:s'.e=0∧s'.rest=[]:=by
   by_cases h:s'.e=0∧0<s'.rest.length
   ·rw [if_pos h] at hE; omega
   ·rw [if_neg h] at hE
    exact ⟨by omega,List.eq_nil_of_length_eq_zero om⟩
  refine sU<|Sy.skip<|sB<|sS (.agg cs.toArray) (Quiet.mid 1 g6 0 3 26 26 cs cs _ _ J kR J EX J kR (by rw [List.drop_zero,List.take_of_length_le om]) om)<|sw 3 J cs.toArray (Writes.row 26 cs 3 _ _ J kR kR kR q2 kZ q3)<|sP (.int .i64 0)<|sG<|Sy.ret ?_
  exact Sy.retGM2 N J (.inl (Sy.Res.cell (ty':=26) g4 3 cs.toArray _ kZ J EX J (by rw [List.size_toArray,q2]; kernel_rfl) rfl)) (.inl (show _=_ by kernel_rfl)) (λ_ h=>h.less (List.sublist_append_right [(gc,134,#[.pointer none,ptr gr,.bool false]),(g6,26,cs.toArray),(gr,253,#[sl',.int .i64 (s'.e:Int)]),(g4,26,cs.toArray),(g7,26,([Value.int .u64 0]++([Value.slice none 0 0]++([Value.slice none 0 0]))).toArray)] (N0++N) |> λh1=>(List.sublist_append_right N0 N).trans h1)) (.inl ⟨x,cs,o1 l2.1 l2.2,rfl,q2,q4⟩)
 ·have l1:=dY hb1
  have l2:s'.e≠0∨s'.rest≠[]:=by
   by_cases h:s'.e=0∧0<s'.rest.length
   ·exact .inr (λe=>by rw [e] at h; exact absurd h.2 dZ)
   ·rw [if_neg h] at hE; exact .inl om
  refine sT<|sC<|sS (.agg ([Value.int .u64 0]++([Value.slice none 0 0]++([Value.slice none 0 0]))).toArray) (qk 4 0 3 J J EX)<|sw 3 J ([Value.int .u64 0]++([Value.slice none 0 0]++([Value.slice none 0 0]))).toArray (wA J)<|sP (.int .i64 120)<|sG<|Sy.ret<|Sy.then_ret ?_
  exact Sy.retGM2 [] rfl (.inl (Sy.Res.cell (ty':=26) g4 3 ([Value.int .u64 0]++([Value.slice none 0 0]++([Value.slice none 0 0]))).toArray _ kZ J EX J kZ J)) (.inl (show _=_ by kernel_rfl)) (λ_ h=>h.none) (.inr ⟨o2 l2,rfl,rfl⟩)
theorem Q3 {α:Type} {rep:Rdr→List Value→α→Prop} {p:Ps α} (hm:BI rep) (hone:∀ {C:Rdr} {cs:List Value} {x:α},rep C cs x→∀ u∈cs,u.oneCell'=true) (hp:B4 28 3 ([Value.int .u64 0]++([Value.slice none 0 0]++([Value.slice none 0 0]))) rep p) (w:World) (v:Value) (b:Byt) (hv:BytR (rdW w) v b) (hl:b.length≤70368744177664) :
  AL 9 #[v] w (A0 w (RdE 3 ([Value.int .u64 0]++([Value.slice none 0 0]++([Value.slice none 0 0]))) rep (GG p b))):=by
 refine Sy.enter (args:=[v]) Tryz.func9 J kL ?_
 refine sC<|sM 26 ([Value.int .u64 0]++([Value.slice none 0 0]++([Value.slice none 0 0]))).toArray (λg2=>?_)
 refine sP (.int .i64 0)<|sA<|sp J<|Sy.callN kR 31 #[v,.func (.func 28) #[] #[]] kF _ (λw' hw=>O9 (rep:=rep) (p:=p) hm hp w' v b (hv.at hw) hl) (λu M hM=>?_)
 rcases hM with ⟨x,cs,o1,rfl,q2,q4⟩ | ⟨o1,rfl,rfl⟩
 ·have q3:∀ u∈cs,u.oneCell'=true:=hone q4
  refine sp J<|sp J<|sw 0 J cs.toArray (Writes.row 26 cs 3 _ _ J kR kR kR q2 kZ q3)<|sp J<|sG<|Sy.ret ?_
  exact Sy.retGM2 M J (.inl (Sy.Res.cell (ty':=26) g2 0 cs.toArray _ kZ J EX J (by rw [List.size_toArray,q2]; kernel_rfl) rfl)) (.inl (show _=_ by kernel_rfl)) (λ_ h=>h.less (List.sublist_cons_self _ _)) (.inl ⟨x,cs,o1,rfl,q2,q4⟩)
 ·refine sp J<|sp J<|sw 0 J ([Value.int .u64 0]++([Value.slice none 0 0]++([Value.slice none 0 0]))).toArray (wA J)<|sp J ?_
  refine sG<|Sy.ret ?_
  exact Sy.retGM2 [] rfl (.inl (Sy.Res.cell (ty':=26) g2 0 ([Value.int .u64 0]++([Value.slice none 0 0]++([Value.slice none 0 0]))).toArray _ kZ J EX J kZ J)) (.inl (show _=_ by kernel_rfl)) (λ_ h=>h.none) (.inr ⟨o1,rfl,rfl⟩)
section
variable {α:Type} {rep:Rdr→List Value→α→Prop} {ok:α→Bool} {enc:α→Byt} {wt:α→Nat}
end
section
variable {α:Type} {rep:Rdr→List Value→α→Prop} {ok:α→Bool} {enc:α→Byt} {wt:α→Nat}
end
section
variable {α:Type} {rep:Rdr→List Value→α→Prop} {p:Ps α}
end
section
variable {α:Type} {rep:Rdr→List Value→α→Prop} {ok:α→Bool} {enc:α→Byt} {wt:α→Nat}
end
section
variable {α:Type} {rep:Rdr→List Value→α→Prop} {ok:α→Bool} {enc:α→Byt} {wt:α→Nat}
end
section
variable {α:Type} {rep:Rdr→List Value→α→Prop} {p:Ps α}
end
end Wr
end
end Go.Proofs.YtdbcombmmnihbaaGreat
