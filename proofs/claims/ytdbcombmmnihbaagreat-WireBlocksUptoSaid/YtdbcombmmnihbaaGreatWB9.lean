/-
  Texts of ours, put together: WirGG, WirGH, WirXF, ScRefN, ScFold, ScRefAdd, ScRefMul, ScNum, EcJ, CrvJ, CrvK, CrvL, CrvM, CrvO, CrvP, CrvQ, EcW, CrvR, CrvS, CrvT, CrvU, CrvV, RefNumT, WirGQ, WirGT, WirGU, WirGV, WirGW.
-/
import Derived.Test.YtdbcombmmnihbaaGreatWB8
set_option linter.unusedVariables false
set_option linter.unusedSimpArgs false
set_option maxRecDepth 100000
set_option maxHeartbeats 80000000
namespace Go.Proofs.YtdbcombmmnihbaaGreat
section
namespace Wr
open Go.RowKit Sy
theorem WA:PutC 28 3 Cp I1 HO D':=λw0 gc gw gx f bad s R b cs x hx _ hc hb hl w hw=>by
 obtain ⟨af,is,os⟩:=x
 obtain ⟨vi,vo,rfl,h1,h2,h3⟩:=hx
 dsimp only at h1 h2 h3
 unfold D' at hl
 dsimp only at hl
 have c0:XAt (rdC w0 R) gx f ([uZ (af:Int)]++([vi]++[vo])):=hc
 have c1:XAt (rdC w0 R) gx (f+1) ([vi]++[vo]):=c0.right (n:=1) rfl
 have c2:XAt (rdC w0 R) gx (f+2) [vo]:=c1.right (n:=1) rfl
 refine Sy.enterT (args:=[ptr gc,pT gx f]) hw Tryz.func28 J kL<|sC<|sp J<|sp J<|sp J<|sP (pT gx f)<|Sy.callT (λw hw=>Fm w0.inn gc gw gx f bad s R b af h1 c0.one hb om w hw) (λu M hM=>?_)
 obtain ⟨s1,bad1,b1,q1,p1,rfl⟩:=hM
 have l1:b1.length≤b.length+8:=q1.len
 refine sA<|sp J<|sp J<|sp J<|sP (pT gx (f+1))<|Sy.callT (λw hw=>ML (rep:=CY) Ey WU w0.inn gc gw gx (f+1) 16 dZ bad1 s1 R b1 vi is h2 c1.one p1 om w hw) (λu M hM=>?_)
 obtain ⟨s2,bad2,b2,q2,p2,rfl⟩:=hM
 have l2:b2.length≤b1.length+(9+(is.map Dp).sum):=q2.len
 refine Sy.nil<|Sy.then_<|Sy.region<|sp J<|sp J<|sp J<|sP (pT gx (f+2))<|Sy.callT (λw hw=>MJ (rep:=Cg) Ex VW w0.inn gc gw gx (f+2) 16 dZ bad2 s2 R b2 vo os h3 c2.one p2 om w hw) (λu M hM=>?_)
 obtain ⟨s3,bad3,b3,q3,p3,rfl⟩:=hM
 have l3:b3.length≤b2.length+(9+(os.map D7).sum):=q3.len
 refine Sy.nil ?_
 have q:=q1.then_ (q2.then_ q3)
 simp only [Bool.true_and] at q
 exact Sy.retT0 J (CWS gc gw bad3 s3 R) (λ_ h=>h) (λ_=>⟨s3,bad3,b3,q,p3,rfl⟩)
theorem WC:B7 28 3 ([Value.int .u64 0]++([Value.slice none 0 0]++([Value.slice none 0 0]))) Cp IC:=λw0 gc gr gx f tx A Z sl s R S hS hA he hl hv w hw=>by
 refine Sy.enterT (args:=[ptr gc,pT gx f]) hw Tryz.func28 J kL<|sC<|sp J<|sp J<|sp J<|sP (pT gx f)<|Sy.callT (λw hw=>Fo w0.inn gc gr gx f tx A ([Value.slice none 0 0]++([Value.slice none 0 0]++Z)) sl s R S hS hA he hl hv w (by simpa only [List.append_assoc] using hw)) (λu M hM=>?_)
 obtain ⟨x1,s1,sl1,cs1,N1,a1,n1,o1,⟨rfl,r1⟩,e1,h1,y1,rfl⟩:=hM
 have g1:s1.rest.length≤s.rest.length:=h1
 have A1:(A++[Value.int .u64 (x1:Int)]).length=f+1:=by rw [List.length_append,hA,n1]
 refine sA<|sp J<|sp J<|sp J<|sP (pT gx (f+1))<|Sy.callT (λw hw=>MR (rep:=CY) (p:=Ej) Ey WV w0.inn gc gr gx (f+1) 16 dZ tx (A++[Value.int .u64 (x1:Int)]) ([Value.slice none 0 0]++Z) sl1 s1 (R++N1) S (λb h=>List.mem_append_left _ (hS b h)) A1 e1 (Nat.le_trans g1 hl) y1 w (by have e:A++[Value.int .u64 (x1:Int)]++([Value.slice none 0 0]++([Value.slice none 0 0]++Z))=A++([Value.int .u64 (x1:Int)]++([Value.slice none 0 0]++([Value.slice none 0 0]++Z))):=List.append_assoc ..; rw [e]; exact hw)) (λu M hM=>?_)
 obtain ⟨x2,s2,sl2,cs2,N2,a2,n2,o2,⟨v2,rfl,r2⟩,e2,h2,y2,rfl⟩:=hM
 have g2:s2.rest.length≤s.rest.length:=Nat.le_trans h2 g1
 have A2:(A++[Value.int .u64 (x1:Int)]++[v2]).length=f+2:=by rw [List.length_append,A1,n2]
 refine Sy.nil<|Sy.then_<|Sy.region<|sp J<|sp J<|sp J<|sP (pT gx (f+2))<|Sy.callT (λw hw=>MP (rep:=Cg) (p:=Gn) Ex VX w0.inn gc gr gx (f+2) 16 dZ tx (A++[Value.int .u64 (x1:Int)]++[v2]) Z sl2 s2 (R++N1++N2) S (λb h=>List.mem_append_left _ (List.mem_append_left _ (hS b h))) A2 e2 (Nat.le_trans g2 hl) y2 w (by have e:A++[Value.int .u64 (x1:Int)]++[v2]++([Value.slice none 0 0]++(Z))=A++[Value.int .u64 (x1:Int)]++([v2]++([Value.slice none 0 0]++(Z))):=List.append_assoc ..; rw [e]; exact hw)) (λu M hM=>?_)
 obtain ⟨x3,s3,sl3,cs3,N3,a3,n3,o3,⟨v3,rfl,r3⟩,e3,h3,y3,rfl⟩:=hM
 have g3:s3.rest.length≤s.rest.length:=Nat.le_trans h3 g2
 have A3:(A++[Value.int .u64 (x1:Int)]++[v2]++[v3]).length=f+3:=by rw [List.length_append,A2,n3]
 refine Sy.nil ?_
 have hAf:After IC s ⟨x1,x2,x3⟩ s3:=a1.bind (a2.bind (a3.bind (After.ret _ _)))
 have hLn:([Value.int .u64 (x1:Int)]++([v2]++([v3]))).length=3:=by rfl
 have hOn:∀ u∈([Value.int .u64 (x1:Int)]++([v2]++([v3]))),u.oneCell'=true:=AD o1 (AD o2 (o3))
 have hRp:Cp (rdB (N1++(N2++(N3)))) ([Value.int .u64 (x1:Int)]++([v2]++([v3]))) ⟨x1,x2,x3⟩:=⟨v2,v3,rfl,r1,LstR.le (rep:=CY) Ey (AV λb h=>by simp [h]) r2,LstR.le (rep:=Cg) Ex (AV λb h=>by simp [h]) r3⟩
 exact Sy.retT0 J (CRS gc gr gx tx (A++(([Value.int .u64 (x1:Int)]++([v2]++([v3])))++Z)) sl3 s3.e (R++(N1++(N2++(N3))))) (λ_ h=>by simpa only [List.append_assoc,List.cons_append,List.nil_append] using h) (λ_=>⟨_,s3,sl3,_,_,hAf,hLn,hOn,hRp,e3,g3,y3,rfl⟩)
theorem Pb:PutC 79 65 DT Kp HQ (λ_=>65):=λw0 gc gw gx f bad s R b cs x hx _ hc hb hl w hw=>by
 obtain ⟨k,sg⟩:=x
 obtain ⟨rfl,h1⟩:=hx
 dsimp only at h1 hl
 have c0:XAt (rdC w0 R) gx f ([.int .i64 k]++sg.map bv):=hc
 have c1:XAt (rdC w0 R) gx (f+1) (sg.map bv):=c0.right (n:=1) rfl
 refine Sy.enterT (args:=[ptr gc,pT gx f]) hw Tryz.func79 J kL<|sC<|sp J<|sp J<|sp J<|sP (pT gx f)<|Sy.callT (λw hw=>EX w0.inn gc gw gx f bad s R b k c0.one hb om w hw) (λu M hM=>?_)
 obtain ⟨s1,bad1,b1,q1,p1,rfl⟩:=hM
 have l1:b1.length≤b.length+1:=q1.len
 refine Sy.nil<|Sy.then_<|Sy.region<|sp J<|sp J<|sp J<|sP (pT gx (f+1))<|sP (.slice (some ⟨gx,f+1,none⟩) 64 64)<|Sy.callT (λw hw=>Kf w0.inn gc gw bad1 s1 R b1 sg _ (c1.byt h1 dZ) p1 om w hw) (λu M hM=>?_)
 obtain ⟨s2,bad2,b2,q2,p2,rfl⟩:=hM
 have l2:b2.length≤b1.length+sg.length:=q2.len
 refine Sy.nil ?_
 rw [h1] at q2
 have q:=q1.then_ q2
 simp only [Bool.and_true] at q
 exact Sy.retT0 J (CWS gc gw bad2 s2 R) (λ_ h=>h) (λ_=>⟨s2,bad2,b2,q,p2,rfl⟩)
theorem Pc:B7 79 65 ([Value.int .i64 0]++(((List.replicate 64 (0:UInt8)).map bv))) DT I0:=λw0 gc gr gx f tx A Z sl s R S hS hA he hl hv w hw=>by
 refine Sy.enterT (args:=[ptr gc,pT gx f]) hw Tryz.func79 J kL<|sC<|sp J<|sp J<|sp J<|sP (pT gx f)<|Sy.callT (λw hw=>E_ w0.inn gc gr gx f tx A (((List.replicate 64 (0:UInt8)).map bv)++Z) sl s R S hS hA he hl hv w (by simpa only [List.append_assoc] using hw)) (λu M hM=>?_)
 obtain ⟨x1,s1,sl1,cs1,N1,a1,n1,o1,rfl,e1,h1,y1,rfl⟩:=hM
 have g1:s1.rest.length≤s.rest.length:=h1
 have A1:(A++[Value.int .i64 x1]).length=f+1:=by rw [List.length_append,hA,n1]
 refine Sy.nil<|Sy.then_<|Sy.region<|sp J<|sp J<|sp J<|sP (pT gx (f+1))<|sP (.slice (some ⟨gx,f+1,none⟩) 64 64)<|Sy.callT (λw hw=>Ll 64 dZ dZ w0.inn gc gr gx (f+1) tx (A++[Value.int .i64 x1]) Z (List.replicate 64 0) dZ sl1 s1 (R++N1) S (λb h=>List.mem_append_left _ (hS b h)) A1 e1 (Nat.le_trans g1 hl) y1 w (by have e:A++[Value.int .i64 x1]++(((List.replicate 64 (0:UInt8)).map bv)++(Z))=A++([Value.int .i64 x1]++(((List.replicate 64 (0:UInt8)).map bv)++(Z))):=List.append_assoc ..; rw [e]; exact hw)) (λu M hM=>?_)
 obtain ⟨x2,s2,sl2,cs2,N2,a2,n2,o2,⟨rfl,r2⟩,e2,h2,y2,rfl⟩:=hM
 have g2:s2.rest.length≤s.rest.length:=Nat.le_trans h2 g1
 have A2:(A++[Value.int .i64 x1]++(x2.map bv)).length=f+65:=by rw [List.length_append,A1,n2]
 refine Sy.nil ?_
 have hAf:After I0 s ⟨x1,x2⟩ s2:=a1.bind (a2.bind (After.ret _ _))
 have hLn:([Value.int .i64 x1]++(x2.map bv)).length=65:=by simp only [List.length_append,n2]; rfl
 have hOn:∀ u∈([Value.int .i64 x1]++(x2.map bv)),u.oneCell'=true:=AD o1 (o2)
 have hRp:DT (rdB (N1++(N2))) ([Value.int .i64 x1]++(x2.map bv)) ⟨x1,x2⟩:=⟨rfl,r2⟩
 exact Sy.retT0 J (CRS gc gr gx tx (A++(([Value.int .i64 x1]++(x2.map bv))++Z)) sl2 s2.e (R++(N1++(N2)))) (λ_ h=>by simpa only [List.append_assoc,List.cons_append,List.nil_append] using h) (λ_=>⟨_,s2,sl2,_,_,hAf,hLn,hOn,hRp,e2,g2,y2,rfl⟩)
noncomputable def NS:TypeInfo:=(Tryz.prog.info? 182).getD default
theorem Ib:Tryz.prog.info? 182=some NS:=kZ
noncomputable def K_sgs:LK:=⟨182,43,183,268,184,269,271,325,324,372,78,135,136,137,138,187,224,79,65,72,([Value.int .i64 0]++(List.replicate 64 (0:UInt8)).map bv),NS⟩
theorem QP:K_sgs.Ok:={
 c_f0:=⟨_,_,Tryz.func78⟩,
 c_fL:=⟨_,_,Tryz.func135⟩,
 c_f1:=⟨_,_,Tryz.func136⟩,
 c_fP:=⟨_,_,Tryz.func137⟩,
 c_f2:=⟨_,_,Tryz.func138⟩,
 c_fI:=⟨_,_,Tryz.func187⟩,
 c_fJ:=⟨_,_,Tryz.func224⟩,
 ute:=⟨_,PJ,rfl⟩,
 uts:=Hy,
 ufw:=⟨_,VA,rfl⟩,
 ufr:=⟨_,U7,rfl⟩,
 inf:=Ib,
 zero:=⟨_,rfl,by kernel_rfl⟩,
 size:=rfl,
 byt:=rfl,
 zl:=kZ,
 pos:=(by decide:0<65),
 top:=(by decide:65≤16777216),
 btop:=(by decide:72≤100000000),
 its:=kZ,
 ifw:=kZ,
 ifr:=kZ,
 zts:=⟨(Tryz.prog.info? 43).getD default,by kernel_rfl,by kernel_rfl⟩,
 e_fe:=enters_of Tryz.func79 kR J,
 e_f2:=enters_of Tryz.func138 kR J,
 e_fP:=enters_of Tryz.func137 kR J,
 e_f1:=enters_of Tryz.func136 kR J,
 e_fL:=enters_of Tryz.func135 kR J,
 e_fI:=enters_of Tryz.func187 kR J,
 e_fJ:=enters_of Tryz.func224 kR J }
theorem MI {α:Type} {rep:Rdr→List Value→α→Prop} {ok:α→Bool} {enc:α→Byt} {wt:α→Nat} (hm:BN rep) (hp:PutC 79 65 rep ok enc wt) (w0:Base) (gc gw gx f most:Nat) (hmo:most<1000000) (bad:Bool) (s:Slc) (R:AA) (b:Byt) (v:Value) (l:List α) (hv:LstR (rdC w0 R) 65 rep v l) (hc:rdC w0 R gx f v) (hb:BS s b) (hlen:b.length+(9+(l.map wt).sum)≤70368744170000) (w:World) (hw:St w0 w (CWS gc gw bad s R)) :
  Calls Tryz.prog 78 #[ptr gc,pT gx f,.int .i64 (most:Int),.func (.func 79) #[] #[]] w (AQ w0 (WrC gc gw R (decide (l.length≤most) && l.all ok) (Ap l.length++l.flatMap enc) (9+(l.map wt).sum) bad b)):=EZ (rep:=rep) (ok:=ok) (enc:=enc) (wt:=wt) QP hm hp.own w0 gc gw gx f most hmo bad s R b v l hv hc hb hlen w hw
theorem MO {α:Type} {rep:Rdr→List Value→α→Prop} {p:Ps α} (hm:BN rep) (hp:B7 79 65 (([Value.int .i64 0]++(List.replicate 64 (0:UInt8)).map bv)) rep p) (w0:Base) (gc gr gx f most:Nat) (hmost:most<1000000) (tx:TypeId) (A Z:List Value) (sl:Value) (s:RS) (R S:AA) (hS:∀ b∈S,b∈R) (hA:A.length=f) (he:s.e≤200) (hl:s.rest.length≤70368744177664) (hv:BytR (rdC w0 S) sl s.rest) (w:World) (hw:St w0 w (CRS gc gr gx tx (A++([Value.slice none 0 0]++Z)) sl s.e R)) :
  Calls Tryz.prog 78 #[ptr gc,pT gx f,.int .i64 (most:Int),.func (.func 79) #[] #[]] w (AQ w0 (RdT 1 (Iz 65 rep) (Ch most p) w0 gc gr gx tx A Z s R S)):=Ea (rep:=rep) (p:=p) QP hm hp w0 gc gr gx f most hmost tx A Z sl s R S hS hA he hl hv w hw
noncomputable def NR:TypeInfo:=(Tryz.prog.info? 26).getD default
theorem E0:Tryz.prog.info? 26=some NR:=kZ
noncomputable def K_txs:LK:=⟨26,44,187,135,83,273,275,328,327,373,80,140,141,142,143,190,225,28,3,56,[Value.int .u64 0]++([Value.slice none 0 0]++([Value.slice none 0 0])),NR⟩
theorem QO:K_txs.Ok:={
 c_f0:=⟨_,_,Tryz.func80⟩,
 c_fL:=⟨_,_,Tryz.func140⟩,
 c_f1:=⟨_,_,Tryz.func141⟩,
 c_fP:=⟨_,_,Tryz.func142⟩,
 c_f2:=⟨_,_,Tryz.func143⟩,
 c_fI:=⟨_,_,Tryz.func190⟩,
 c_fJ:=⟨_,_,Tryz.func225⟩,
 ute:=⟨_,PI,rfl⟩,
 uts:=Gg,
 ufw:=⟨_,V',rfl⟩,
 ufr:=⟨_,U6,rfl⟩,
 inf:=E0,
 zero:=⟨_,rfl,by kernel_rfl⟩,
 size:=rfl,
 byt:=rfl,
 zl:=kZ,
 pos:=(by decide:0<3),
 top:=(by decide:3≤16777216),
 btop:=(by decide:56≤100000000),
 its:=kZ,
 ifw:=kZ,
 ifr:=kZ,
 zts:=⟨(Tryz.prog.info? 44).getD default,by kernel_rfl,by kernel_rfl⟩,
 e_fe:=enters_of Tryz.func28 kR J,
 e_f2:=enters_of Tryz.func143 kR J,
 e_fP:=enters_of Tryz.func142 kR J,
 e_f1:=enters_of Tryz.func141 kR J,
 e_fL:=enters_of Tryz.func140 kR J,
 e_fI:=enters_of Tryz.func190 kR J,
 e_fJ:=enters_of Tryz.func225 kR J }
theorem MH {α:Type} {rep:Rdr→List Value→α→Prop} {ok:α→Bool} {enc:α→Byt} {wt:α→Nat} (hm:BN rep) (hp:PutC 28 3 rep ok enc wt) (w0:Base) (gc gw gx f most:Nat) (hmo:most<1000000) (bad:Bool) (s:Slc) (R:AA) (b:Byt) (v:Value) (l:List α) (hv:LstR (rdC w0 R) 3 rep v l) (hc:rdC w0 R gx f v) (hb:BS s b) (hlen:b.length+(9+(l.map wt).sum)≤70368744170000) (w:World) (hw:St w0 w (CWS gc gw bad s R)) :
  Calls Tryz.prog 80 #[ptr gc,pT gx f,.int .i64 (most:Int),.func (.func 28) #[] #[]] w (AQ w0 (WrC gc gw R (decide (l.length≤most) && l.all ok) (Ap l.length++l.flatMap enc) (9+(l.map wt).sum) bad b)):=EZ (rep:=rep) (ok:=ok) (enc:=enc) (wt:=wt) QO hm hp.own w0 gc gw gx f most hmo bad s R b v l hv hc hb hlen w hw
theorem MN {α:Type} {rep:Rdr→List Value→α→Prop} {p:Ps α} (hm:BN rep) (hp:B7 28 3 ([Value.int .u64 0]++([Value.slice none 0 0]++([Value.slice none 0 0]))) rep p) (w0:Base) (gc gr gx f most:Nat) (hmost:most<1000000) (tx:TypeId) (A Z:List Value) (sl:Value) (s:RS) (R S:AA) (hS:∀ b∈S,b∈R) (hA:A.length=f) (he:s.e≤200) (hl:s.rest.length≤70368744177664) (hv:BytR (rdC w0 S) sl s.rest) (w:World) (hw:St w0 w (CRS gc gr gx tx (A++([Value.slice none 0 0]++Z)) sl s.e R)) :
  Calls Tryz.prog 80 #[ptr gc,pT gx f,.int .i64 (most:Int),.func (.func 28) #[] #[]] w (AQ w0 (RdT 1 (Iz 3 rep) (Ch most p) w0 gc gr gx tx A Z s R S)):=Ea (rep:=rep) (p:=p) QO hm hp w0 gc gr gx f most hmost tx A Z sl s R S hS hA he hl hv w hw
theorem TI:Fw 38 104 C3 D8 D3 Fi:=λw0 gc gw gx f bad s R b cs x hx _ hc hb hl w hw=>by
 obtain ⟨hd,sg,tx⟩:=x
 obtain ⟨ch,vs,vt,rfl,h1,h2,h3⟩:=hx
 dsimp only at h1 h2 h3
 unfold Fi at hl
 dsimp only at hl
 have e1:=Qp h1
 have c0:OwnAt R gx f (ch++([vs]++[vt])):=hc
 have c1:OwnAt R gx (f+102) ([vs]++[vt]):=c0.right e1
 have c2:OwnAt R gx (f+103) [vt]:=c1.right (n:=1) rfl
 refine Sy.enterT (args:=[ptr gc,pT gx f]) hw Tryz.func38 J kL<|sC<|sp J<|sp J<|sp J<|sP (pT gx f)<|Sy.callT (λw hw=>Q3 w0.inn gc gw gx f bad s R b ch hd h1 e1 c0.left hb om w hw) (λu M hM=>?_)
 obtain ⟨s1,bad1,b1,q1,p1,rfl⟩:=hM
 have l1:b1.length≤b.length+Dq hd:=q1.len
 refine sA<|sp J<|sp J<|sp J<|sP (pT gx (f+102))<|Sy.callT (λw hw=>MI (rep:=DT) Gs Pb w0.inn gc gw gx (f+102) 16 dZ bad1 s1 R b1 vs sg h2 (c1.at w0.inn).one p1 om w hw) (λu M hM=>?_)
 obtain ⟨s2,bad2,b2,q2,p2,rfl⟩:=hM
 have l2:b2.length≤b1.length+(9+(sg.map λ_=>65).sum):=q2.len
 refine Sy.nil<|Sy.then_<|Sy.region<|sp J<|sp J<|sp J<|sP (pT gx (f+103))<|Sy.callT (λw hw=>MH (rep:=Cp) Ew WA w0.inn gc gw gx (f+103) 64 dZ bad2 s2 R b2 vt tx h3 (c2.at w0.inn).one p2 om w hw) (λu M hM=>?_)
 obtain ⟨s3,bad3,b3,q3,p3,rfl⟩:=hM
 have l3:b3.length≤b2.length+(9+(tx.map D').sum):=q3.len
 refine Sy.nil ?_
 have q:=q1.then_ (q2.then_ q3)
 skip
 exact Sy.retT0 J (CWS gc gw bad3 s3 R) (λ_ h=>h) (λ_=>⟨s3,bad3,b3,q,p3,rfl⟩)
theorem TJ:B7 38 104 ((Z32++([Value.int .u64 0]++([Value.int .u64 0]++(Z32++(Z32++([Value.slice none 0 0]++([Value.bool false]++([Value.int .i64 0]++[Value.slice none 0 0]))))))))++([Value.slice none 0 0]++([Value.slice none 0 0]))) C3 Jr:=λw0 gc gr gx f tx A Z sl s R S hS hA he hl hv w hw=>by
 refine Sy.enterT (args:=[ptr gc,pT gx f]) hw Tryz.func38 J kL<|sC<|sp J<|sp J<|sp J<|sP (pT gx f)<|Sy.callT (λw hw=>Q4 w0.inn gc gr gx f tx A ([Value.slice none 0 0]++([Value.slice none 0 0]++Z)) sl s R S hS hA he hl hv w (by simpa only [List.append_assoc] using hw)) (λu M hM=>?_)
 obtain ⟨x1,s1,sl1,cs1,N1,a1,n1,o1,r1,e1,h1,y1,rfl⟩:=hM
 have g1:s1.rest.length≤s.rest.length:=h1
 have A1:(A++(cs1)).length=f+102:=by rw [List.length_append,hA,n1]
 refine sA<|sp J<|sp J<|sp J<|sP (pT gx (f+102))<|Sy.callT (λw hw=>MO (rep:=DT) (p:=I0) Gs Pc w0.inn gc gr gx (f+102) 16 dZ tx (A++(cs1)) ([Value.slice none 0 0]++Z) sl1 s1 (R++N1) S (λb h=>List.mem_append_left _ (hS b h)) A1 e1 (Nat.le_trans g1 hl) y1 w (by have e:A++(cs1)++([Value.slice none 0 0]++([Value.slice none 0 0]++Z))=A++(cs1++([Value.slice none 0 0]++([Value.slice none 0 0]++Z))):=List.append_assoc ..; rw [e]; exact hw)) (λu M hM=>?_)
 obtain ⟨x2,s2,sl2,cs2,N2,a2,n2,o2,⟨v2,rfl,r2⟩,e2,h2,y2,rfl⟩:=hM
 have g2:s2.rest.length≤s.rest.length:=Nat.le_trans h2 g1
 have A2:(A++(cs1)++[v2]).length=f+103:=by rw [List.length_append,A1,n2]
 refine Sy.nil<|Sy.then_<|Sy.region<|sp J<|sp J<|sp J<|sP (pT gx (f+103))<|Sy.callT (λw hw=>MN (rep:=Cp) (p:=IC) Ew WC w0.inn gc gr gx (f+103) 64 dZ tx (A++(cs1)++[v2]) Z sl2 s2 (R++N1++N2) S (λb h=>List.mem_append_left _ (List.mem_append_left _ (hS b h))) A2 e2 (Nat.le_trans g2 hl) y2 w (by have e:A++(cs1)++[v2]++([Value.slice none 0 0]++(Z))=A++(cs1)++([v2]++([Value.slice none 0 0]++(Z))):=List.append_assoc ..; rw [e]; exact hw)) (λu M hM=>?_)
 obtain ⟨x3,s3,sl3,cs3,N3,a3,n3,o3,⟨v3,rfl,r3⟩,e3,h3,y3,rfl⟩:=hM
 have g3:s3.rest.length≤s.rest.length:=Nat.le_trans h3 g2
 have A3:(A++(cs1)++[v2]++[v3]).length=f+104:=by rw [List.length_append,A2,n3]
 refine Sy.nil ?_
 have hAf:After Jr s ⟨x1,x2,x3⟩ s3:=a1.bind (a2.bind (a3.bind (After.ret _ _)))
 have hLn:(cs1++([v2]++([v3]))).length=104:=by simp only [List.length_append,n1]; rfl
 have hOn:∀ u∈(cs1++([v2]++([v3]))),u.oneCell'=true:=AD o1 (AD o2 (o3))
 have hRp:C3 (rdB (N1++(N2++(N3)))) (cs1++([v2]++([v3]))) ⟨x1,x2,x3⟩:=⟨cs1,v2,v3,rfl,MF (AV λb h=>by simp [h]) r1,LstR.le (rep:=DT) Gs (AV λb h=>by simp [h]) r2,LstR.le (rep:=Cp) Ew (AV λb h=>by simp [h]) r3⟩
 exact Sy.retT0 J (CRS gc gr gx tx (A++((cs1++([v2]++([v3])))++Z)) sl3 s3.e (R++(N1++(N2++(N3))))) (λ_ h=>by simpa only [List.append_assoc,List.cons_append,List.nil_append] using h) (λ_=>⟨_,s3,sl3,_,_,hAf,hLn,hOn,hRp,e3,g3,y3,rfl⟩)
theorem Nw {α:Type} {rep:Rdr→List Value→α→Prop} {ok:α→Bool} {enc:α→Byt} {wt:α→Nat} (hm:BN rep) (hp:Fw 38 104 rep ok enc wt) (w:World) (cs:List Value) (x:α) (hx:rep (rdW w) cs x) (hl:cs.length=104) (hwt:wt x≤70368744170000) :
  AL 37 #[.agg cs.toArray,.func (.func 38) #[] #[]] w (BD w (BytE (ok x) (enc x))):=by
 refine Sy.enter (args:=[.agg cs.toArray,.func (.func 38) #[] #[]]) Tryz.func37 J kL<|sC<|sM 46 cs.toArray (λgx=>?_) kR (λw=>Aq J J kZ hl w)
 refine sP (.slice none 0 0)<|sP (.int .i64 0)<|sA<|Sy.callN kR 57 #[] kF _ (λw _=>J2 w) (λv M hM=>?_)
 obtain ⟨gw,rfl,rfl⟩:=hM
 refine sP (.agg #[ptr gw,.pointer none,.bool false])<|sM 134 #[ptr gw,.pointer none,.bool false] (λgc=>?_)
 refine sp J<|sA<|Sy.permS (M:=CWS gc gw false nilS [(gx,46,cs.toArray)]) (Sy.perm_at [2,1,0] kZ (by rfl))<|sp J<|sp J<|Sy.callT (λw' hw=>hp (Base.of w) gc gw gx 0 false nilS [(gx,46,cs.toArray)] [] cs x (hm EF hx) hl (VV (List.mem_singleton.2 J)) BS.nil (by show 0+_≤_; omega) w' hw) (λv M hM=>?_)
 obtain ⟨s,bad,b,q1,q2,rfl⟩:=hM
 have hbl:b.length≤wt x:=by have:=q1.len; simpa using this
 refine sG<|Sy.seq<|sC<|sp J<|sp J<|sP (pT gc 2)<|sS (.bool bad) (qc 0 2 J J uy4)<|sG ?_
 cases bad
 ·have hok:ok x=true:=by
   have e:=q1.bad
   cases h:ok x with
   | true=>rfl
   | false=>rw [h] at e; cases e
  obtain rfl:b=enc x:=by have:=q1.bytes rfl; simpa using this
  refine sU<|Sy.skip<|sB<|sp J<|sp J<|sP (pT gc 0)<|sS (ptr gw) (qc 0 0 J J Fa)<|Sy.callT (λw' hw=>bytes_any (Base.of w) gw s ((gc,134,#[ptr gw,.pointer none,.bool false])::[(gx,46,cs.toArray)]) (enc x) q2 om w' (hw.perm permCW)) (λv M hM=>?_)
  obtain ⟨N,hN,rfl⟩:=hM
  refine sp J<|sP (.int .i64 0)<|sG<|Sy.ret ?_
  exact Sy.retGM2 N J (.inl (show _=_ by kernel_rfl)) (.inl (show _=_ by kernel_rfl)) (λ_ h=>h.less (List.sublist_append_right _ _)) (.inl ⟨hok,v,rfl,hN⟩)
 ·have hok:ok x=false:=by
   have e:=q1.bad
   cases h:ok x with
   | false=>rfl
   | true=>rw [h] at e; cases e
  refine sT<|sC<|sP (.slice none 0 0)<|sP (.int .i64 120)<|sG<|Sy.ret<|Sy.then_ret ?_
  exact Sy.retGM2 [] rfl (.inl (show _=_ by kernel_rfl)) (.inl (show _=_ by kernel_rfl)) (λ_ h=>h.none) (.inr ⟨hok,rfl,rfl⟩)
theorem Um {α:Type} {rep:Rdr→List Value→α→Prop} {ok:α→Bool} {enc:α→Byt} {wt:α→Nat} (hm:BN rep) (hp:Fw 38 104 rep ok enc wt) (w:World) (cs:List Value) (x:α) (hx:rep (rdW w) cs x) (hl:cs.length=104) (hwt:wt x≤70368744170000) :
  AL 13 #[.agg cs.toArray] w (BD w (BytE (ok x) (enc x))):=by
 refine Sy.enter (args:=[.agg cs.toArray]) Tryz.func13 J kL<|sC<|sM 46 cs.toArray (λgx=>?_) kR (λw=>Aq J J kZ hl w)
 refine sP (.slice none 0 0)<|sP (.int .i64 0)<|sA<|sS (.agg cs.toArray) (BQ (R:=[(gx,46,cs.toArray)]) (J7 (List.mem_singleton.2 J)) (λ_ h=>h) hl J Ei)<|Sy.callN kR 37 #[.agg cs.toArray,.func (.func 38) #[] #[]] kF (BytE (ok x) (enc x)) (λw' hw=>Nw (rep:=rep) hm hp w' cs x (hm (λg o u h=>Ad (R:=[]) hw (λ_ h=>by cases h) g o u (.inl h)) hx) hl hwt) (λv M hM=>?_)
 have hv:∃ a e:Value,v=.tuple #[a,e]:=by
  rcases hM with ⟨_,u,rfl,_⟩ | ⟨_,rfl,_⟩ <;> exact ⟨_,_,rfl⟩
 obtain ⟨a,e,rfl⟩:=hv
 refine sp J<|sp J<|sp J<|sp J<|sG<|Sy.ret ?_
 exact Sy.retGM2 M J (.inl (show _=_ by kernel_rfl)) (.inl (show _=_ by kernel_rfl)) (λ_ h=>h.less (List.sublist_append_right _ _)) hM
theorem Pv {α:Type} {rep:Rdr→List Value→α→Prop} {p:Ps α} (hm:BN rep) (hp:B7 38 104 ((Z32++([Value.int .u64 0]++([Value.int .u64 0]++(Z32++(Z32++([Value.slice none 0 0]++([Value.bool false]++([Value.int .i64 0]++[Value.slice none 0 0]))))))))++([Value.slice none 0 0]++([Value.slice none 0 0]))) rep p) (w:World) (v:Value) (b:Byt) (hv:BytR (rdW w) v b) (hl:b.length≤70368744177664) :
  AL 40 #[v,.func (.func 38) #[] #[]] w (BD w (RdE 104 ((Z32++([Value.int .u64 0]++([Value.int .u64 0]++(Z32++(Z32++([Value.slice none 0 0]++([Value.bool false]++([Value.int .i64 0]++[Value.slice none 0 0]))))))))++([Value.slice none 0 0]++([Value.slice none 0 0]))) rep (Gc p b))):=by
 refine Sy.enter (args:=[v,.func (.func 38) #[] #[]]) Tryz.func40 J kL<|sC<|sM 46 ((Z32++([Value.int .u64 0]++([Value.int .u64 0]++(Z32++(Z32++([Value.slice none 0 0]++([Value.bool false]++([Value.int .i64 0]++[Value.slice none 0 0]))))))))++([Value.slice none 0 0]++([Value.slice none 0 0]))).toArray (λg4=>?_)
 refine sP (.int .i64 0)<|sA<|sM 46 ((Z32++([Value.int .u64 0]++([Value.int .u64 0]++(Z32++(Z32++([Value.slice none 0 0]++([Value.bool false]++([Value.int .i64 0]++[Value.slice none 0 0]))))))))++([Value.slice none 0 0]++([Value.slice none 0 0]))).toArray (λg6=>?_)
 refine sM 46 ((Z32++([Value.int .u64 0]++([Value.int .u64 0]++(Z32++(Z32++([Value.slice none 0 0]++([Value.bool false]++([Value.int .i64 0]++[Value.slice none 0 0]))))))))++([Value.slice none 0 0]++([Value.slice none 0 0]))).toArray (λg7=>?_)
 refine sA<|sp J<|Sy.callN kR 67 #[v] kF _ (λw' hw=>read_any w' v b (hv.at hw) hl) (λu M hM=>?_)
 obtain ⟨gr,sl,N0,hN0,rfl,rfl⟩:=hM
 refine sP (.agg #[.pointer none,ptr gr,.bool false])<|sM 134 #[.pointer none,ptr gr,.bool false] (λgc=>?_)
 refine Sy.permS (M:=CRS gc gr g6 46 ([]++(((Z32++([Value.int .u64 0]++([Value.int .u64 0]++(Z32++(Z32++([Value.slice none 0 0]++([Value.bool false]++([Value.int .i64 0]++[Value.slice none 0 0]))))))))++([Value.slice none 0 0]++([Value.slice none 0 0])))++[])) sl 0 ((g4,46,((Z32++([Value.int .u64 0]++([Value.int .u64 0]++(Z32++(Z32++([Value.slice none 0 0]++([Value.bool false]++([Value.int .i64 0]++[Value.slice none 0 0]))))))))++([Value.slice none 0 0]++([Value.slice none 0 0]))).toArray)::(g7,46,((Z32++([Value.int .u64 0]++([Value.int .u64 0]++(Z32++(Z32++([Value.slice none 0 0]++([Value.bool false]++([Value.int .i64 0]++[Value.slice none 0 0]))))))))++([Value.slice none 0 0]++([Value.slice none 0 0]))).toArray)::N0)) (Sy.flat_perm (ls:=[[(g4,46,((Z32++([Value.int .u64 0]++([Value.int .u64 0]++(Z32++(Z32++([Value.slice none 0 0]++([Value.bool false]++([Value.int .i64 0]++[Value.slice none 0 0]))))))))++([Value.slice none 0 0]++([Value.slice none 0 0]))).toArray)],[(g6,46,((Z32++([Value.int .u64 0]++([Value.int .u64 0]++(Z32++(Z32++([Value.slice none 0 0]++([Value.bool false]++([Value.int .i64 0]++[Value.slice none 0 0]))))))))++([Value.slice none 0 0]++([Value.slice none 0 0]))).toArray)],[(g7,46,((Z32++([Value.int .u64 0]++([Value.int .u64 0]++(Z32++(Z32++([Value.slice none 0 0]++([Value.bool false]++([Value.int .i64 0]++[Value.slice none 0 0]))))))))++([Value.slice none 0 0]++([Value.slice none 0 0]))).toArray)],[(gr,253,#[sl,.int .i64 0])],N0,[(gc,134,#[.pointer none,ptr gr,.bool false])]]) (ms:=[[(gc,134,#[.pointer none,ptr gr,.bool false])],[(g6,46,((Z32++([Value.int .u64 0]++([Value.int .u64 0]++(Z32++(Z32++([Value.slice none 0 0]++([Value.bool false]++([Value.int .i64 0]++[Value.slice none 0 0]))))))))++([Value.slice none 0 0]++([Value.slice none 0 0]))).toArray)],[(gr,253,#[sl,.int .i64 0])],[(g4,46,((Z32++([Value.int .u64 0]++([Value.int .u64 0]++(Z32++(Z32++([Value.slice none 0 0]++([Value.bool false]++([Value.int .i64 0]++[Value.slice none 0 0]))))))))++([Value.slice none 0 0]++([Value.slice none 0 0]))).toArray)],[(g7,46,((Z32++([Value.int .u64 0]++([Value.int .u64 0]++(Z32++(Z32++([Value.slice none 0 0]++([Value.bool false]++([Value.int .i64 0]++[Value.slice none 0 0]))))))))++([Value.slice none 0 0]++([Value.slice none 0 0]))).toArray)],N0]) [5,1,3,0,2,4] kZ (by rfl) (by simp) (by simp))<|sp J<|sA<|sp J<|sp J<|Sy.callT (λw' hw=>hp (Base.of w) gc gr g6 0 46 [] [] sl ⟨b,0⟩ ((g4,46,((Z32++([Value.int .u64 0]++([Value.int .u64 0]++(Z32++(Z32++([Value.slice none 0 0]++([Value.bool false]++([Value.int .i64 0]++[Value.slice none 0 0]))))))))++([Value.slice none 0 0]++([Value.slice none 0 0]))).toArray)::(g7,46,((Z32++([Value.int .u64 0]++([Value.int .u64 0]++(Z32++(Z32++([Value.slice none 0 0]++([Value.bool false]++([Value.int .i64 0]++[Value.slice none 0 0]))))))))++([Value.slice none 0 0]++([Value.slice none 0 0]))).toArray)::N0) N0 (λx h=>List.mem_cons_of_mem _ (List.mem_cons_of_mem _ h)) J (Nat.zero_le _) hl (hN0.byt.le ID) w' hw) (λu M hM=>?_)
 obtain ⟨x,s',sl',cs,N,q1,q2,q3,q4,q5,q6,q7,rfl⟩:=hM
 rw [List.append_nil]
 obtain ⟨o1,o2⟩:=Mj q1
 obtain ⟨e,hE⟩:=xE (if s'.e=0∧0<s'.rest.length then 113 else s'.e)
 have hEl:e≤200:=by rw [hE]; split <;> omega
 refine sG<|Sy.seq<|sC ?_
 obtain ⟨b1,hb1⟩:=xE (decide (e≠0))
 refine sp J<|sp J<|sP (pT gc 1)<|sS (ptr gr) (qc 0 1 J J CV)<|sS (.int .i64 (e:Int)) (qg (λw' hw=>by rw [hE]; exact Nc (Base.of w) gr sl' s' N0 q5 q7 (List.mem_cons_of_mem _ (List.mem_cons_of_mem _ (List.mem_cons_self ..))) w' hw))<|sS (.bool b1) (qne J J J hb1)<|sG ?_
 cases b1
 ·have l1:e=0:=Decidable.of_not_not (of_decide_eq_false hb1.symm)
  have l2:s'.e=0∧s'.rest=[]:=by
   by_cases h:s'.e=0∧0<s'.rest.length
   ·rw [if_pos h] at hE; omega
   ·rw [if_neg h] at hE
    exact ⟨by omega,List.eq_nil_of_length_eq_zero om⟩
  refine sU<|Sy.skip<|sB<|sS (.agg cs.toArray) (Quiet.mid 1 g6 0 104 46 46 cs cs _ _ J kR J Ei J kR (by rw [List.drop_zero,List.take_of_length_le om]) om)<|sw 3 J cs.toArray (Writes.row 46 cs 104 _ _ J kR kR kR q2 kZ q3)<|sP (.int .i64 0)<|sG<|Sy.ret ?_
  exact Sy.retGM2 N J (.inl (Sy.Res.cell (ty':=46) g4 3 cs.toArray _ kZ J Ei J (by rw [List.size_toArray,q2]; kernel_rfl) rfl)) (.inl (show _=_ by kernel_rfl)) (λ_ h=>h.less (List.sublist_append_right [(gc,134,#[.pointer none,ptr gr,.bool false]),(g6,46,cs.toArray),(gr,253,#[sl',.int .i64 (s'.e:Int)]),(g4,46,cs.toArray),(g7,46,((Z32++([Value.int .u64 0]++([Value.int .u64 0]++(Z32++(Z32++([Value.slice none 0 0]++([Value.bool false]++([Value.int .i64 0]++[Value.slice none 0 0]))))))))++([Value.slice none 0 0]++([Value.slice none 0 0]))).toArray)] (N0++N) |> λh1=>(List.sublist_append_right N0 N).trans h1)) (.inl ⟨x,cs,o1 l2.1 l2.2,rfl,q2,q4⟩)
 ·have l1:=dY hb1
  have l2:s'.e≠0∨s'.rest≠[]:=by
   by_cases h:s'.e=0∧0<s'.rest.length
   ·exact .inr (λe=>by rw [e] at h; exact absurd h.2 dZ)
   ·rw [if_neg h] at hE; exact .inl om
  refine sT<|sC<|sS (.agg ((Z32++([Value.int .u64 0]++([Value.int .u64 0]++(Z32++(Z32++([Value.slice none 0 0]++([Value.bool false]++([Value.int .i64 0]++[Value.slice none 0 0]))))))))++([Value.slice none 0 0]++([Value.slice none 0 0]))).toArray) (qk 4 0 104 J J Ei)<|sw 3 J ((Z32++([Value.int .u64 0]++([Value.int .u64 0]++(Z32++(Z32++([Value.slice none 0 0]++([Value.bool false]++([Value.int .i64 0]++[Value.slice none 0 0]))))))))++([Value.slice none 0 0]++([Value.slice none 0 0]))).toArray (wA J)<|sP (.int .i64 120)<|sG<|Sy.ret<|Sy.then_ret ?_
  exact Sy.retGM2 [] rfl (.inl (Sy.Res.cell (ty':=46) g4 3 ((Z32++([Value.int .u64 0]++([Value.int .u64 0]++(Z32++(Z32++([Value.slice none 0 0]++([Value.bool false]++([Value.int .i64 0]++[Value.slice none 0 0]))))))))++([Value.slice none 0 0]++([Value.slice none 0 0]))).toArray _ kZ J Ei J kZ J)) (.inl (show _=_ by kernel_rfl)) (λ_ h=>h.none) (.inr ⟨o2 l2,rfl,rfl⟩)
theorem R2 {α:Type} {rep:Rdr→List Value→α→Prop} {p:Ps α} (hm:BN rep) (hone:∀ {C:Rdr} {cs:List Value} {x:α},rep C cs x→∀ u∈cs,u.oneCell'=true) (hp:B7 38 104 ((Z32++([Value.int .u64 0]++([Value.int .u64 0]++(Z32++(Z32++([Value.slice none 0 0]++([Value.bool false]++([Value.int .i64 0]++[Value.slice none 0 0]))))))))++([Value.slice none 0 0]++([Value.slice none 0 0]))) rep p) (w:World) (v:Value) (b:Byt) (hv:BytR (rdW w) v b) (hl:b.length≤70368744177664) :
  AL 15 #[v] w (BD w (RdE 104 ((Z32++([Value.int .u64 0]++([Value.int .u64 0]++(Z32++(Z32++([Value.slice none 0 0]++([Value.bool false]++([Value.int .i64 0]++[Value.slice none 0 0]))))))))++([Value.slice none 0 0]++([Value.slice none 0 0]))) rep (Gc p b))):=by
 refine Sy.enter (args:=[v]) Tryz.func15 J kL<|sC<|sM 46 ((Z32++([Value.int .u64 0]++([Value.int .u64 0]++(Z32++(Z32++([Value.slice none 0 0]++([Value.bool false]++([Value.int .i64 0]++[Value.slice none 0 0]))))))))++([Value.slice none 0 0]++([Value.slice none 0 0]))).toArray (λg2=>?_)
 refine sP (.int .i64 0)<|sA<|sp J<|Sy.callN kR 40 #[v,.func (.func 38) #[] #[]] kF _ (λw' hw=>Pv (rep:=rep) (p:=p) hm hp w' v b (hv.at hw) hl) (λu M hM=>?_)
 rcases hM with ⟨x,cs,o1,rfl,q2,q4⟩ | ⟨o1,rfl,rfl⟩
 ·have q3:∀ u∈cs,u.oneCell'=true:=hone q4
  refine sp J<|sp J<|sw 0 J cs.toArray (Writes.row 46 cs 104 _ _ J kR kR kR q2 kZ q3)<|sp J<|sG<|Sy.ret ?_
  exact Sy.retGM2 M J (.inl (Sy.Res.cell (ty':=46) g2 0 cs.toArray _ kZ J Ei J (by rw [List.size_toArray,q2]; kernel_rfl) rfl)) (.inl (show _=_ by kernel_rfl)) (λ_ h=>h.less (List.sublist_cons_self _ _)) (.inl ⟨x,cs,o1,rfl,q2,q4⟩)
 ·refine sp J<|sp J<|sw 0 J ((Z32++([Value.int .u64 0]++([Value.int .u64 0]++(Z32++(Z32++([Value.slice none 0 0]++([Value.bool false]++([Value.int .i64 0]++[Value.slice none 0 0]))))))))++([Value.slice none 0 0]++([Value.slice none 0 0]))).toArray (wA J)<|sp J ?_
  refine sG<|Sy.ret ?_
  exact Sy.retGM2 [] rfl (.inl (Sy.Res.cell (ty':=46) g2 0 ((Z32++([Value.int .u64 0]++([Value.int .u64 0]++(Z32++(Z32++([Value.slice none 0 0]++([Value.bool false]++([Value.int .i64 0]++[Value.slice none 0 0]))))))))++([Value.slice none 0 0]++([Value.slice none 0 0]))).toArray _ kZ J Ei J kZ J)) (.inl (show _=_ by kernel_rfl)) (λ_ h=>h.none) (.inr ⟨o1,rfl,rfl⟩)
def OJ (o:MOu):Nat:=o.range.length+o.surject.length+o.note.length+o.script.length
def PR (i:MIs):Nat:=i.range.length
def PQ (p:MPg):Nat:=p.tx.length+(p.path.length+p.script.length)
def OK (i:MIn):Nat:=PR i.issue+(PQ i.peg+(i.wit.length+(i.wit.map λx=>x.length).sum))
def OI (t:MTr):Nat:=(t.ins.length+(t.ins.map OK).sum)+(t.outs.length+(t.outs.map OJ).sum)
def Rr (b:MBl):Nat:=(b.header.reward.length+b.header.next.keys.length)+(b.sigs.length+(b.txs.length+(b.txs.map OI).sum))
theorem TV {α:Type} (l:List α):(l.map λ_=>0).sum=0:=by induction l with | nil=>rfl | cons a l ih=>rw [List.map_cons,List.sum_cons,ih]
theorem UO:Opn 143 4 Pj (λ_=>0):=⟨λ{H enc W fuel cs x} hl hf=>by
 match cs,hl with
 | [c0,c1,c2,c3],_ =>
  obtain ⟨n,h1,h2⟩:=Cu.words_trod Be CD kZ hf
  refine ⟨n,⟨h2,h1⟩,λu hu=>?_,C0 _⟩
  rw [h2] at hu
  simp only [Cu.fws,List.mem_cons,List.not_mem_nil,or_false] at hu
  rcases hu with rfl|rfl|rfl|rfl <;> rfl⟩
theorem Jy:Opn 140 1 VG (λ_=>0):=VY F0
theorem SL:Opn 63 58 Cg OJ:=opn_out.as λC cs o h=>⟨o,h,Nat.le_refl _⟩
theorem SM:Opn 142 33 Kd (λ_=>0):=(Lv TU kZ kZ kZ kZ Es Jy).as λC cs (a,b) ⟨a0,a1,e,⟨e0,h1⟩,⟨e1,h2⟩⟩=>by
 dsimp only at e0 e1 h1 h2
 subst e0 e1 e
 exact ⟨(a,b),⟨rfl,h1,h2⟩,Nat.zero_le _⟩
theorem SO:Opn 145 50 EE PR:=(QH FW kZ kZ kZ kZ kZ kZ kZ kZ kZ kZ kZ kZ (Ko uy3) M' opn_raw GD Es UO).as λC cs (k,a,r,t,n,s) ⟨a0,a1,a2,a3,a4,a5,ec,e0,⟨e1,h1⟩,⟨v2,e2,h2⟩,⟨e3,h3⟩,⟨e4,h4⟩,⟨e5,h5⟩⟩=>by
 obtain rfl:a0=[.int .i64 k]:=e0
 dsimp only at e1 e2 e3 e4 e5 h1 h2 h3 h4 h5
 subst e1 e2 e3 e4 e5 ec
 exact ⟨⟨k,a,r,t,n,s⟩,⟨v2,rfl,h1,h2,h3,h4,h5⟩,by show r.length≤0+0+r.length+0+0+0; omega⟩
theorem SJ:Opn 148 37 ED PQ:=(QH Hz kZ kZ kZ kZ kZ kZ kZ kZ kZ kZ kZ kZ Es opn_raw Jy Jy (G7 Dg kZ dZ Es) opn_raw).as λC cs (h,t,p,m,l,s) ⟨a0,a1,a2,a3,a4,a5,ec,⟨e0,h0⟩,⟨v1,e1,h1⟩,⟨e2,h2⟩,⟨e3,h3⟩,⟨v4,e4,h4⟩,⟨v5,e5,h5⟩⟩=>by
 dsimp only at e0 e1 e2 e3 e4 e5 h0 h1 h2 h3 h4 h5
 subst e0 e1 e2 e3 e4 e5 ec
 exact ⟨⟨h,t,p,m,l,s⟩,⟨v1,v4,v5,rfl,h0,h1,h2,h3,h4,h5⟩,by show t.length+(l.length+s.length)≤0+t.length+0+0+(l.length+(l.map λ_=>0).sum)+s.length; rw [TV]; omega⟩
theorem SP:Opn 151 122 CY OK:=(UR KR kZ kZ kZ kZ kZ kZ kZ kZ kZ kZ (Ko uy3) SM SO SJ (G7 Df kZ dZ opn_raw)).as λC cs (k,o,i,g,w) ⟨a0,a1,a2,a3,a4,ec,e0,⟨e1,h1,h1'⟩,h2,h3,⟨v4,e4,h4⟩⟩=>by
 obtain rfl:a0=[.int .i64 k]:=e0
 dsimp only at e1 e4 h1 h1' h2 h3 h4
 subst e1 e4 ec
 exact ⟨⟨k,o.1,o.2,i,g,w⟩,⟨a2,a3,v4,rfl,h1,h1',h2,h3,h4⟩,by show PR i+(PQ g+(w.length+(w.map λx=>x.length).sum))≤0+0+PR i+PQ g+(w.length+(w.map λx=>x.length).sum); omega⟩
theorem SF:Opn 26 3 Cp OI:=(IM PI kZ kZ kZ kZ kZ kZ GD (G7 Gi kZ dZ SP) (G7 Gh kZ dZ SL)).as λC cs (a,i,o) ⟨a0,a1,a2,ec,⟨e0,h0⟩,⟨v1,e1,h1⟩,⟨v2,e2,h2⟩⟩=>by
 dsimp only at e0 e1 e2 h0 h1 h2
 subst e0 e1 e2 ec
 exact ⟨⟨a,i,o⟩,⟨v1,v2,rfl,h0,h1,h2⟩,by show (i.length+(i.map OK).sum)+(o.length+(o.map OJ).sum)≤0+(i.length+(i.map OK).sum)+(o.length+(o.map OJ).sum); omega⟩
theorem SI:Opn 180 64 (UA 64) (λ_=>0):=QJ Mm uy5 kZ kZ
theorem SH:Opn 182 65 DT (λ_=>0):=(Lv PJ kZ kZ kZ kZ (Ko uy3) SI).as λC cs (k,s) ⟨a0,a1,e,e0,⟨e1,h1⟩⟩=>by
 obtain rfl:a0=[.int .i64 k]:=e0
 dsimp only at e1 h1
 subst e1 e
 exact ⟨⟨k,s⟩,⟨rfl,h1⟩,Nat.zero_le _⟩
theorem opn_blk:Opn 46 104 C3 Rr:=(IM Ei kZ kZ kZ kZ kZ kZ SQ (G7 Hy kZ dZ SH) (G7 Gg kZ dZ SF)).as λC cs (h,s,t) ⟨a0,a1,a2,ec,h0,⟨v1,e1,h1⟩,⟨v2,e2,h2⟩⟩=>by
 dsimp only at e1 e2 h0 h1 h2
 subst e1 e2 ec
 exact ⟨⟨h,s,t⟩,⟨a0,v1,v2,rfl,h0,h1,h2⟩,by show (h.reward.length+h.next.keys.length)+(s.length+(t.length+(t.map OI).sum))≤(h.reward.length+h.next.keys.length)+(s.length+(s.map λ_=>0).sum)+(t.length+(t.map OI).sum); rw [TV]; omega⟩
end Wr
end
section
namespace Sc
open Go.RowKit Go.Lib
def IW:Value:=.agg #[.int .u64 13822214165235122497,.int .u64 13451932020343611451,.int .u64 18446744073709551614,.int .u64 18446744073709551615,.int .u64 4624529908474429119,.int .u64 4994812053365940164,.int .u64 1]
theorem MX:fv 115792089237316195423570985008687907852837564279074904382605163141518161494337=.agg #[.int .u64 13822214165235122497,.int .u64 13451932020343611451,.int .u64 18446744073709551614,.int .u64 18446744073709551615]:=rfl
theorem refN_any (w:World):Calls Tryz.prog 220 #[] w λe w'=>e=.returned IW∧Below w.heap.size w w':=by
 go_enter Tryz.func220,Tryz.ntmps220
 go_wp2
 exact bodyPost_ret (results_cell_row J _ _ w.heap.size _ _ (0,0) _ J (heap_alloc_new w _) De J kZ) rfl ⟨rfl,(Below.refl _ _).alloc (Nat.le_refl _) _⟩
theorem refOf_any (w:World) (n:Nat) (hn:n<(2^256)):Calls Tryz.prog 241 #[fv n] w λe w'=>e=.returned (fv n)∧Below w.heap.size w w':=by
 obtain ⟨a,b,c,d,fn⟩:=Ae n hn
 rw [fn]
 clear fn
 go_enter Tryz.func241,Tryz.ntmps241
 go_wp2
 exact bodyPost_ret (results_cell_row J _ _ (w.heap.size+1) _ _ (0,0) _ J (heap_alloc2_new w _ _) AU J kZ) rfl ⟨rfl,AZ w _ _⟩
theorem refSc_any (w:World) (n:Nat) (hn:n<(2^256)):Calls Tryz.prog 221 #[fv n] w λe w'=>e=.returned (fv n)∧Below w.heap.size w w':=by
 obtain ⟨a,b,c,d,fn⟩:=Ae n hn
 rw [fn]
 clear fn
 go_enter Tryz.func221,Tryz.ntmps221
 go_wp2
 exact bodyPost_ret (results_cell_row J _ _ (w.heap.size+1) _ _ (0,0) _ J (heap_alloc2_new w _ _) Be J kZ) rfl ⟨rfl,AZ w _ _⟩
theorem normR_any (w:World) (x:Nat) (hx:x<(2^256)):Calls Tryz.prog 240 #[IW,fv x] w λe w'=>e=.returned (fv (x%pM))∧Below w.heap.size w w':=by
 obtain ⟨z,hz⟩:=xE (x%pM)
 obtain ⟨p,hp⟩:∃ p,p=115792089237316195423570985008687907852837564279074904382605163141518161494337:=⟨_,rfl⟩
 have hpl:p<(2^256):=om
 obtain ⟨b,hb⟩:=xE (decide (x<p))
 have cb:∀ w,Calls Tryz.prog 247 #[fv x,fv p] w λe w'=>e=.returned (.bool b)∧Below w.heap.size w w':=by
  intro w; rw [hb]; exact Gb w x p J J hx hpl
 have t1:b=true→z=x:=λh=>by
  rw [hb] at h
  rw [hz]
  exact Nat.mod_eq_of_lt (by rw [EG, ← hp]; simpa using h)
 have cm:b=false→∀ w,Calls Tryz.prog 267 #[fv x,fv p] w λe w'=>e=.returned (fv z)∧Below w.heap.size w w':=λh w=>by
  rw [hb] at h
  have hle:¬ x<p:=by simpa using h
  have hzx:z+p=x:=by rw [hz,F7 x hx,if_neg om]; omega
  exact Gv w x p z 0 J J hx hpl om om
 have hpc:fv p=.agg #[.int .u64 13822214165235122497,.int .u64 13451932020343611451,.int .u64 18446744073709551614,.int .u64 18446744073709551615]:=by rw [hp]; exact MX
 obtain ⟨x0,x1,x2,x3,fx⟩:=Ae x hx
 have FX:=Lib.hid fx
 have FP:=Lib.hid hpc
 rw [fx, ← hz]
 unfold IW
 clear fx hpc hx hz hp hpl hb
 go_enter Tryz.func240,Tryz.ntmps240
 go_wp2_with (first | ((with_reducible refine AF (d:=some 6) ?_); refine AC J _ _ J (w.heap.size+1) rfl x _ _ _ ((Ab w _ _ _).alloc _) FX.out AU J kZ ?_) | ((with_reducible refine AF (d:=some 8) ?_); refine Bk J _ _ J w.heap.size J p [.int .u64 13822214165235122497,.int .u64 13451932020343611451,.int .u64 18446744073709551614,.int .u64 18446744073709551615] _ (Cq (((Blk.new w _ _).alloc _).alloc _)) FP.out AU J kZ ?_))
 refine (cb _).mono ?_
 rintro e w1 ⟨rfl,k1⟩
 have BM:Blk w1 w.heap.size 366 _:=Gr.blk k1 (((Blk.new w _ _).alloc _).alloc _)
 have BX:Blk w1 (w.heap.size+1) 359 _:=Gr.blk k1 ((Ab w _ _ _).alloc _)
 have BR:Blk w1 (w.heap.size+2) 359 _:=Gr.blk k1 (Ay w _ _ _ _)
 have hB:=Below.gr (AY w _ _ _) k1
 clear k1 cb
 cases b
 ·have cmm:=cm J
  clear cm t1
  go_wp2_with (first | ((with_reducible refine AF (d:=some 12) ?_); refine AC J _ _ J (w.heap.size+1) rfl x _ _ _ BX FX.out AU J kZ ?_) | ((with_reducible refine AF (d:=some 14) ?_); refine Bk J _ _ J w.heap.size J p [.int .u64 13822214165235122497,.int .u64 13451932020343611451,.int .u64 18446744073709551614,.int .u64 18446744073709551615] _ (Cq BM) FP.out AU J kZ ?_))
  refine (cmm _).mono ?_
  rintro e w2 ⟨rfl,k2⟩
  have BR2:=Gr.blk k2 BR
  have hB2:=Below.gr hB k2
  clear k2 cmm
  go_wp2_with ((with_reducible refine AG ?_); refine AB J _ _ _ J (w.heap.size+2) (fcs z) J J _ _ BR2 kZ (by rfl) (AM _) ?_; intro w9 hL9 hB9 hK9)
  exact bodyPost_ret (results_cell_row J _ _ (w.heap.size+2) _ _ (0,0) _ J hL9 AU J kZ) rfl ⟨rfl,hB2.trans (hB9 _ om)⟩
 ·have HZX:=Lib.hid (t1 J)
  clear t1 cm
  go_wp2_with (first | ((with_reducible refine AF (d:=some 11) ?_); refine AC J _ _ J (w.heap.size+1) rfl x _ _ _ BX FX.out AU J kZ ?_) | ((with_reducible refine AG ?_); refine AB J _ _ _ J (w.heap.size+2) (fcs x) J J _ _ BR kZ (by rfl) (AM _) ?_; intro w9 hL9 hB9 hK9))
  exact bodyPost_ret (results_cell_row J _ _ (w.heap.size+2) _ _ (0,0) _ J hL9 AU J kZ) rfl ⟨by rw [HZX.out]; rfl,hB.trans (hB9 _ om)⟩
theorem rightR_any (w:World) (x:Nat) (hx:x<(2^256)):Calls Tryz.prog 219 #[IW,fv x] w λe w'=>e=.returned (.bool (decide (x<pM)))∧Below w.heap.size w w':=by
 obtain ⟨p,hp⟩:∃ p,p=115792089237316195423570985008687907852837564279074904382605163141518161494337:=⟨_,rfl⟩
 obtain ⟨b,hb⟩:=xE (decide (x<pM))
 have cb:∀ w,Calls Tryz.prog 247 #[fv x,fv p] w λe w'=>e=.returned (.bool b)∧Below w.heap.size w w':=by
  intro w; rw [hb,EG, ← hp]; exact Gb w x p J J hx om
 have hpc:fv p=.agg #[.int .u64 13822214165235122497,.int .u64 13451932020343611451,.int .u64 18446744073709551614,.int .u64 18446744073709551615]:=by rw [hp]; exact MX
 obtain ⟨x0,x1,x2,x3,fx⟩:=Ae x hx
 have FX:=Lib.hid fx
 have FP:=Lib.hid hpc
 rw [fx, ← hb]
 unfold IW
 clear fx hpc hx hp hb
 go_enter Tryz.func219,Tryz.ntmps219
 go_wp2_with (first | ((with_reducible refine AF (d:=some 5) ?_); refine AC J _ _ J (w.heap.size+1) rfl x _ _ _ (Ab w _ _ _) FX.out AU J kZ ?_) | ((with_reducible refine AF (d:=some 7) ?_); refine Bk J _ _ J w.heap.size J p [.int .u64 13822214165235122497,.int .u64 13451932020343611451,.int .u64 18446744073709551614,.int .u64 18446744073709551615] _ (Cq ((Blk.new w _ _).alloc _)) FP.out AU J kZ ?_))
 refine (cb _).mono ?_
 rintro e w1 ⟨rfl,k1⟩
 go_wp2
 go_ret
 exact ⟨rfl,Below.gr (AZ w _ _) k1⟩
section
variable {P:Program} {ops:Array Oper}
end
end Sc
end
section
namespace Nt
end Nt
end
section
namespace Ec
variable {n:Nat} [NeZero n] {inv:Fin n→Fin n}
end Ec
end
section
namespace Cu
open Go.RowKit Sy
end Cu
end
section
namespace Ec
variable {n:Nat} [NeZero n] {inv:Fin n→Fin n} {α:Type}
end Ec
end
section
namespace Cu
open Go.RowKit Sy
def Vf:Array Value:=#[.int .u64 13822214165235122497,.int .u64 13451932020343611451,.int .u64 18446744073709551614,.int .u64 18446744073709551615,.int .u64 4624529908474429119,.int .u64 4994812053365940164,.int .u64 1]
end Cu
end
section
section
open Go.RowKit Go.Lib
theorem Ks (w:World) (g o cap:Nat) (l:Ak) (hl:l.length=32) (hg:g<w.heap.size) (hcell:∀ j u,l[j]? = some u→w.cell? ⟨g,o+j,none⟩=some (bv u)) (_:32≤cap) (_:cap≤9223372036854775807):Calls Tryz.prog 218 #[.slice (some ⟨g,o,none⟩) 32 cap] w λe w'=>e=.returned (fv (Ag l))∧Below w.heap.size w w':=by
 have HL:=Lib.hid hl
 have HG:=Lib.hid hcell
 clear hl hcell
 go_enter Tryz.func218,Tryz.ntmps218
 go_wp2_with fail
 go_loopw [4] (λi wr=>∃ k y0 y1 y2 y3:Nat,k≤32∧i=.int .i64 (k:Int)∧Hid (y0=wdB l k 0∧y1=wdB l k 1∧y2=wdB l k 2∧y3=wdB l k 3)∧Below w.heap.size w wr∧Blk wr (w.heap.size+1) 359 #[.int .u64 (y3:Int),.int .u64 (y2:Int),.int .u64 (y1:Int),.int .u64 (y0:Int)]∧Blk wr w.heap.size 359 #[.int .u64 0,.int .u64 0,.int .u64 0,.int .u64 0]) (λi _=>32 - (intOf i).toNat)
 case atStart=>exact ⟨0,0,0,0,0,by omega,rfl,Lib.hid ⟨(Bb l 0).symm,(Bb l 1).symm,(Bb l 2).symm,(Bb l 3).symm⟩,AZ w _ _,Ab w _ _ _,(Blk.new w _ _).alloc _⟩
 case round =>
  obtain ⟨k,y0,y1,y2,y3,hk,rfl,HY,hb,hP,hR⟩:=hrel
  have q3:wr.cell? ⟨w.heap.size+1,0,none⟩=some (.int .u64 (y3:Int)):=hP.cell 0
  have q2:wr.cell? ⟨w.heap.size+1,1,none⟩=some (.int .u64 (y2:Int)):=hP.cell 1
  have q1:wr.cell? ⟨w.heap.size+1,2,none⟩=some (.int .u64 (y1:Int)):=hP.cell 2
  have q0:wr.cell? ⟨w.heap.size+1,3,none⟩=some (.int .u64 (y0:Int)):=hP.cell 3
  have ff:∀ j,wr.frozen? ⟨w.heap.size+1,j,none⟩=false:=λj=>hP.frozen j
  by_cases hlt:k<32
  ·obtain ⟨c,hc⟩:∃ c,l[k]? = some c:=⟨l[k]'(by rw [HL.out]; exact hlt),List.getElem?_eq_getElem _⟩
   have HC:=Lib.hid hc
   obtain ⟨m,hm⟩:=xE c.toNat
   have hm8:m<256:=by rw [hm]; exact c.toNat_lt
   have hI:wr.cell? ⟨g,o+k,none⟩=some (.int .u8 (m:Int)):=by
    rw [hm]
    exact (hb.cell (p:=⟨g,o+k,none⟩) hg).trans (HG.out k c hc)
   have HM:=Lib.hid hm
   have HR:=Lib.hid (And.intro hb (And.intro hP hR))
   clear hb hP hR hc hk hm
   rcases (DB k) with rfl|rfl|rfl|rfl|rfl|rfl|rfl|rfl|rfl|rfl|rfl|rfl|rfl|rfl|rfl|rfl|rfl|rfl|rfl|rfl|rfl|rfl|rfl|rfl|rfl|rfl|rfl|rfl|rfl|rfl|rfl|rfl
   all_goals try rw [Nat.add_zero] at hI
   all_goals
    first
    | ((have hy:y0<72057594037927936:=by rw [HY.out.1]; exact Ci l _ 0 dZ); go_wp2; go_region; all_goals go_wp2; all_goals (refine ⟨⟨_,y0*256+m,y1,y2,y3,by decide,rfl,Lib.hid ⟨by rw [HY.out.1,HM.out]; exact (Bc l _ 0 c HC.out dZ).symm,by rw [HY.out.2.1]; exact (AR l _ 1 dZ).symm,by rw [HY.out.2.2.1]; exact (AR l _ 2 dZ).symm,by rw [HY.out.2.2.2]; exact (AR l _ 3 dZ).symm⟩,(HR.out.1.setCell (by show w.heap.size≤w.heap.size+1; omega) _).drew,Blk.drew (Blk.eq_ (HR.out.2.1.set_ 3 _) (by rw [show ((y0*256+m:Nat):Int)=(y0:Int)*256+(m:Int) by omega]; rfl)),Blk.drew (HR.out.2.2.far (by show w.heap.size≠w.heap.size+1; omega) _)⟩,by simp [intOf]⟩))
    | ((have hy:y1<72057594037927936:=by rw [HY.out.2.1]; exact Ci l _ 1 dZ); go_wp2; go_region; all_goals go_wp2; all_goals (refine ⟨⟨_,y0,y1*256+m,y2,y3,by decide,rfl,Lib.hid ⟨by rw [HY.out.1]; exact (AR l _ 0 dZ).symm,by rw [HY.out.2.1,HM.out]; exact (Bc l _ 1 c HC.out dZ).symm,by rw [HY.out.2.2.1]; exact (AR l _ 2 dZ).symm,by rw [HY.out.2.2.2]; exact (AR l _ 3 dZ).symm⟩,(HR.out.1.setCell (by show w.heap.size≤w.heap.size+1; omega) _).drew,Blk.drew (Blk.eq_ (HR.out.2.1.set_ 2 _) (by rw [show ((y1*256+m:Nat):Int)=(y1:Int)*256+(m:Int) by omega]; rfl)),Blk.drew (HR.out.2.2.far (by show w.heap.size≠w.heap.size+1; omega) _)⟩,by simp [intOf]⟩))
    | ((have hy:y2<72057594037927936:=by rw [HY.out.2.2.1]; exact Ci l _ 2 dZ); go_wp2; go_region; all_goals go_wp2; all_goals (refine ⟨⟨_,y0,y1,y2*256+m,y3,by decide,rfl,Lib.hid ⟨by rw [HY.out.1]; exact (AR l _ 0 dZ).symm,by rw [HY.out.2.1]; exact (AR l _ 1 dZ).symm,by rw [HY.out.2.2.1,HM.out]; exact (Bc l _ 2 c HC.out dZ).symm,by rw [HY.out.2.2.2]; exact (AR l _ 3 dZ).symm⟩,(HR.out.1.setCell (by show w.heap.size≤w.heap.size+1; omega) _).drew,Blk.drew (Blk.eq_ (HR.out.2.1.set_ 1 _) (by rw [show ((y2*256+m:Nat):Int)=(y2:Int)*256+(m:Int) by omega]; rfl)),Blk.drew (HR.out.2.2.far (by show w.heap.size≠w.heap.size+1; omega) _)⟩,by simp [intOf]⟩))
    | ((have hy:y3<72057594037927936:=by rw [HY.out.2.2.2]; exact Ci l _ 3 dZ); go_wp2; go_region; all_goals go_wp2; all_goals (refine ⟨⟨_,y0,y1,y2,y3*256+m,by decide,rfl,Lib.hid ⟨by rw [HY.out.1]; exact (AR l _ 0 dZ).symm,by rw [HY.out.2.1]; exact (AR l _ 1 dZ).symm,by rw [HY.out.2.2.1]; exact (AR l _ 2 dZ).symm,by rw [HY.out.2.2.2,HM.out]; exact (Bc l _ 3 c HC.out dZ).symm⟩,(HR.out.1.setCell (by show w.heap.size≤w.heap.size+1; omega) _).drew,Blk.drew (Blk.eq_ (HR.out.2.1.set_ 0 _) (by rw [show ((y3*256+m:Nat):Int)=(y3:Int)*256+(m:Int) by omega]; rfl)),Blk.drew (HR.out.2.2.far (by show w.heap.size≠w.heap.size+1; omega) _)⟩,by simp [intOf]⟩))
  ·have p1:¬ (k:Int)<32:=om
   obtain rfl:k=32:=om
   have b0:y0<18446744073709551616:=by rw [HY.out.1]; exact B9 l _ _
   have b1:y1<18446744073709551616:=by rw [HY.out.2.1]; exact B9 l _ _
   have b2:y2<18446744073709551616:=by rw [HY.out.2.2.1]; exact B9 l _ _
   have b3:y3<18446744073709551616:=by rw [HY.out.2.2.2]; exact B9 l _ _
   obtain ⟨z,hz⟩:=xE (y3+18446744073709551616*y2+340282366920938463463374607431768211456*y1+6277101735386680763835789423207666416102355444464034512896*y0)
   have fz:=Cw y3 y2 y1 y0 b3 b2 b1 b0
   rw [← hz] at fz
   have hzv:Ag l=z:=by rw [Hg l HL.out,hz,HY.out.1,HY.out.2.1,HY.out.2.2.1,HY.out.2.2.2]
   have HZ:=Lib.hid hzv
   have FZ:=Lib.hid fz.symm
   have HP:=Lib.hid hP
   have HR:=Lib.hid hR
   clear HY b0 b1 b2 b3 hz fz hzv q0 q1 q2 q3 ff hP hR
   go_wp2_with (first | ((with_reducible refine AF (d:=some 31) ?_); refine AC J _ _ J (w.heap.size+1) rfl z _ _ _ HP.out FZ.out AU J kZ ?_) | ((with_reducible refine AG ?_); refine AB J _ _ _ J w.heap.size (fcs z) J J _ _ HR.out kZ (by rfl) (AM _) ?_; intro vz hLz hqz hKz))
   exact bodyPost_ret (results_cell_row J _ _ w.heap.size _ _ (0,0) _ J hLz AU J kZ) rfl ⟨by rw [HZ.out]; rfl,hb.trans (hqz _ om)⟩
end
end
section
namespace Cu
open Go.RowKit Sy
theorem TH (w:World) (x:Nat) (hx:x<K4):Calls Tryz.prog 214 #[fv x] w (BD w (λvq Mq=>∃ (g:Nat) (sp:List Value) (cap:Nat),vq=.slice (pA g) 32 cap∧(32≤cap∧cap≤9223372036854775807)∧Mq=[(g,5,((AW x).map bv++sp).toArray)])):=by
 refine (Im w x hx).mono ?_
 rintro e w' ⟨g,cap,rfl,ho,hl,hb⟩
 rcases ho.2 with ⟨h0,_⟩ | ⟨g',cap',cur,hv,hg,hk,q3,q4,q5,q6⟩
 ·cases h0
 ·cases hv
  have h32:=AN x
  rw [AN] at q6
  have hc:cur=((AW x).map bv++cur.toList.drop 32).toArray:=by
   rw [Nat.mul_one] at q6
   rw [← q6,List.take_append_drop]
  refine ⟨_,[(g,5,cur)],rfl,⟨g,cur.toList.drop 32,cap,rfl,⟨by omega,by simp only [maxLen] at q4; omega⟩,by rw [← hc]⟩,hb,λg1 t1 cs1 hm=>?_,by simp⟩
  simp only [List.mem_singleton,Prod.mk.injEq] at hm
  obtain ⟨rfl,rfl,rfl⟩:=hm
  exact ⟨by omega,hk⟩
theorem nsc_any (w:World) (a:Nat) (ha:a<K4):AL 213 #[fv a] w (Ai w (fv (a%Sc.pM))):=by
 refine Sy.enter (args:=[fv a]) Tryz.func213 J kL<|sC<|sM 143 (fcs a) (λg0=>?_)
 refine sM 143 (fcs 0) (λg1=>?_)
 refine sH (λj=>j == 5) ?_
 refine sD 0 J (.agg Vf) (qf Sc.refN_any)<|sD 1 J (fv a) (qk 0 0 4 J J Be)<|sD 2 J (fv a) (qf (λw=>Sc.refOf_any w a (by first | assumption | exact Sc.mod_lt _ | exact lt4 _ | exact Bl _ (by first | assumption | exact AN _) | decide +kernel)))<|sD 3 J (fv (a%Sc.pM)) (qf (λw=>Sc.normR_any w a (by first | assumption | exact Sc.mod_lt _ | exact lt4 _ | exact Bl _ (by first | assumption | exact AN _) | decide +kernel)))<|sD 4 J (fv (a%Sc.pM)) (qf (λw=>Sc.refSc_any w (a%Sc.pM) (by first | assumption | exact Sc.mod_lt _ | exact lt4 _ | exact Bl _ (by first | assumption | exact AN _) | decide +kernel)))<|sx 5 J 1 J (fcs (a%Sc.pM)) (wA J)<|sI<|Sy.ret ?_
 exact rc (v:=fv (a%Sc.pM)) 1 J J Be
theorem bscN (w:World) (a:Nat) (ha:a<K4):AL 176 #[fv a] w (BD w (λvq Mq=>∃ (g:Nat) (sp:List Value) (cap:Nat),vq=.slice (pA g) 32 cap∧(32≤cap∧cap≤9223372036854775807)∧Mq=[(g,5,((AW (a%Sc.pM)).map bv++sp).toArray)])):=by
 refine Sy.enter (args:=[fv a]) Tryz.func176 J kL<|sC<|sM 143 (fcs a) (λg0=>?_)
 refine sP (.slice none 0 0)<|sA<|sS (fv a) (qk 0 0 4 J J Be)<|sS (fv (a%Sc.pM)) (qf (λw=>nsc_any w a (by first | assumption | exact Sc.mod_lt _ | exact lt4 _ | exact Bl _ (by first | assumption | exact AN _) | decide +kernel)))<|sS (fv (a%Sc.pM)) (qf (λw=>refOf_any w (a%Sc.pM) (by first | assumption | exact Sc.mod_lt _ | exact lt4 _ | exact Bl _ (by first | assumption | exact AN _) | decide +kernel)))<|Sy.callN kR 214 #[fv (a%Sc.pM)] kF (λvq Mq=>∃ (g:Nat) (sp:List Value) (cap:Nat),vq=.slice (pA g) 32 cap∧(32≤cap∧cap≤9223372036854775807)∧Mq=[(g,5,((AW (a%Sc.pM)).map bv++sp).toArray)]) (λw _=>TH w (a%Sc.pM) (by first | assumption | exact Sc.mod_lt _ | exact lt4 _ | exact Bl _ (by first | assumption | exact AN _) | decide +kernel)) (λvq Mq hR0=>?_)
 obtain ⟨go1,spo1,cpo1,rfl,hcpo1,rfl⟩:=hR0
 refine sP (.slice (pA go1) 32 cpo1)<|sG<|Sy.ret ?_
 exact Rx 1 (go1,5,((AW (a%Sc.pM)).map bv++spo1).toArray) rfl (v:=.slice (pA go1) 32 cpo1) (.inl (show _=_ by kernel_rfl)) kR ⟨go1,spo1,cpo1,rfl,hcpo1,rfl⟩
theorem rdR_off (w:World) (g o cp:Nat) (l:Ak) (hl:l.length=32) (hg:g<w.heap.size) (hc:∀ j u,l[j]? = some u→w.cell? ⟨g,o+j,none⟩=some (bv u)) (h1:32≤cp) (h2:cp≤9223372036854775807):AL 180 #[.slice (some ⟨g,o,none⟩) 32 cp] w (Ai w (.tuple #[fv (Sc.readS l).1,.bool (Sc.readS l).2])):=by
 refine Sy.enter (args:=[.slice (some ⟨g,o,none⟩) 32 cp]) Tryz.func180 J kL<|sC<|sM 143 (fcs 0) (λg0=>?_)
 refine sP (.bool false)<|sA<|sP (.slice (some ⟨g,o,none⟩) 32 cp)<|sS (fv (Ag l)) (qg (λw hw=>Ks w g o cp l hl (Nat.lt_of_lt_of_le hg hw.below.size) (λj u hj=>(Below.cell (p:=⟨g,o+j,none⟩) hw.below hg).trans (hc j u hj)) h1 h2))<|sM 359 (fcs 0) (λg1=>?_)
 refine sw 1 J (fcs (Ag l)) (wA J)<|sH (λj=>false) ?_
 refine sD 0 J (.agg Vf) (qf Sc.refN_any)<|sD 1 J (fv (Ag l)) (qk 1 0 4 J J AU) ?_
 obtain ⟨b1,hb1⟩:=xE (decide (Ag l<Sc.pM))
 refine sD 2 J (.bool b1) (qf (λw=>by rw [hb1]; exact Sc.rightR_any w (Ag l) (Bl l hl)))<|sZ 3 J (.bool b1)<|sI<|Sy.seq<|sC<|sP (.slice (some ⟨g,o,none⟩) 32 cp)<|sP (.int .i64 32)<|sP (.bool false)<|sP (.bool false)<|sP (.bool b1) ?_
 cases b1
 ·refine sP (.bool true)<|sP (.bool true) ?_
  refine sG<|sT<|sC<|sP (fv 0)<|sw 0 J (fcs 0) (wA J)<|sP (.bool false)<|sG<|Sy.ret<|Sy.then_ret ?_
  rw [show (.tuple #[fv (Sc.readS l).1,.bool (Sc.readS l).2]:Value)=.tuple #[fv 0,.bool false] from by unfold Sc.readS; rw [if_neg (of_decide_eq_false hb1.symm)]]
  exact Sy.ret2 (v:=fv 0) (u:=.bool false) rfl (.inl (Res.cell (ty':=143) g0 0 (fcs 0) _ kR kR Be J kR kR)) (.inl (show _=_ by kernel_rfl))
 ·refine sP (.bool false)<|sP (.bool false) ?_
  refine sG<|sU<|Sy.skip<|sB<|sS (fv (Ag l)) (qk 1 0 4 J J AU)<|sS (fv (Ag l)) (qf (λw=>Sc.refSc_any w (Ag l) (by first | assumption | exact Sc.mod_lt _ | exact lt4 _ | exact Bl _ (by first | assumption | exact AN _) | decide +kernel)))<|sw 0 J (fcs (Ag l)) (wA J)<|sP (.bool true)<|sG<|Sy.ret ?_
  rw [show (.tuple #[fv (Sc.readS l).1,.bool (Sc.readS l).2]:Value)=.tuple #[fv (Ag l),.bool true] from by unfold Sc.readS; rw [if_pos (of_decide_eq_true hb1.symm)]]
  exact Sy.ret2 (v:=fv (Ag l)) (u:=.bool true) rfl (.inl (Res.cell (ty':=143) g0 0 (fcs (Ag l)) _ kR kR Be J kR kR)) (.inl (show _=_ by kernel_rfl))
end Cu
end
section
namespace Wr
open Go.RowKit Sy
theorem Nh (w0:Base) (gw:Nat) (bad:Bool) (s:Slc) (R:AA) (b:Byt) (x:Byt) (hx:x.length=32) (hb:BS s b) (hl:b.length+32≤70368744177000) (w:World) (hw:St w0 w (WB gw bad s R)) :
  Calls Tryz.prog 144 #[ptr gw,.agg (x.map bv).toArray] w (AQ w0 (Wd gw R true x 32 bad b)) :=
 (EL w0 gw bad s R b x hx hb om w hw).mono λe w' ⟨v,M,h1,⟨r,h2,h3⟩,h4⟩=>⟨v,M,h1,⟨r,bad,_,Wrote.raw x bad b om,h2,h3⟩,h4⟩
theorem Kt (k:Nat) (hk:k≤8) (w0:Base) (gw:Nat) (bad:Bool) (s:Slc) (R:AA) (b:Byt) (n:Nat) (hn:n<18446744073709551616) (hb:BS s b) (hl:b.length+k≤70368744177000) (w:World) (hw:St w0 w (WB gw bad s R)) :
  Calls Tryz.prog 63 #[ptr gw,.int .u64 (n:Int),.int .i64 (k:Int)] w (AQ w0 (Wd gw R true (nb k n) k bad b)) :=
 (GI w0 gw bad s R b n k hn hk hb om w hw).mono λe w' ⟨v,M,h1,⟨r,h2,h3⟩,h4⟩=>⟨v,M,h1,⟨r,bad,_,Wrote.raw (nb k n) bad b (by rw [B1]; exact Nat.le_refl _),h2,h3⟩,h4⟩
theorem O_ (w:World) (n:Nat) (hn:n<Cu.K4):AL 175 #[fv n] w (Ai w (.bool (J1 n))):=by
 refine Sy.enter (args:=[fv n]) Tryz.func175 J kL<|sC<|sM 143 (fcs n) (λg1=>?_)
 refine sP (.bool false)<|sH (λ_=>false) ?_
 refine sD 0 J (fv n) (qk 0 0 4 J J Be)<|sD 1 J (fv (n%Sc.pM)) (qf (λw=>Cu.nsc_any w n hn))<|sD 2 J (fv n) (qk 0 0 4 J J Be)<|sv 3 J (.bool (J1 n)) (λw=>LG w _ _ _ _ (n%Sc.pM) n J J J (Nat.lt_trans (Nat.mod_lt _ dZ) dZ) hn)<|sz 4 J J<|sI<|Sy.ret ?_
 exact rV (.bool (J1 n)) J
theorem QW (w:World) (p:MPg) (A1 A2 A3:Option Addr) (n1 c1 n2 c2 n3 c3:Nat) (k1:p.tx.length=n1) (k2:p.path.length=n2) (k3:p.script.length=n3) (h0:p.header.length=32) :
  AL 121 #[.agg (cPG p (.slice A1 n1 c1) (.slice A2 n2 c2) (.slice A3 n3 c3)).toArray] w (Ai w (.bool (DU p))):=by
 obtain ⟨hd,tx,pl,mn,pa,sq⟩:=p
 dsimp only at k1 k2 k3 h0
 have m0:(hd.map bv).length=32:=by rw [List.length_map,h0]
 have hlen:(cPG ⟨hd,tx,pl,mn,pa,sq⟩ (.slice A1 n1 c1) (.slice A2 n2 c2) (.slice A3 n3 c3)).length=37:=by simp only [cPG,List.length_append,m0]; rfl
 have hnul:DU ⟨hd,tx,pl,mn,pa,sq⟩=(decide (hd=z32) && (decide (n1=0) && (decide (pl=0) && (decide (mn=0) && (decide (n2=0) && decide (n3=0)))))):=by unfold DU; dsimp only; rw [k1,k2,k3]
 refine Sy.enter (args:=[.agg (cPG ⟨hd,tx,pl,mn,pa,sq⟩ (.slice A1 n1 c1) (.slice A2 n2 c2) (.slice A3 n3 c3)).toArray]) Tryz.func121 J kL<|sC<|sM 148 (cPG ⟨hd,tx,pl,mn,pa,sq⟩ (.slice A1 n1 c1) (.slice A2 n2 c2) (.slice A3 n3 c3)).toArray (λg1=>?_) kR (λw=>Aq J J kZ hlen w)
 refine sP (.bool false) ?_
 have X0:XAt (rdC (Base.of w) [(g1,148,(cPG ⟨hd,tx,pl,mn,pa,sq⟩ (.slice A1 n1 c1) (.slice A2 n2 c2) (.slice A3 n3 c3)).toArray)]) g1 0 (cPG ⟨hd,tx,pl,mn,pa,sq⟩ (.slice A1 n1 c1) (.slice A2 n2 c2) (.slice A3 n3 c3)):=λi u hu=>.inr ⟨_,_,List.mem_singleton.2 J,by rw [Nat.zero_add,List.getElem?_toArray]; exact hu⟩
 have X1:XAt (rdC (Base.of w) [(g1,148,(cPG ⟨hd,tx,pl,mn,pa,sq⟩ (.slice A1 n1 c1) (.slice A2 n2 c2) (.slice A3 n3 c3)).toArray)]) g1 32 ([.slice A1 n1 c1]++([.int .u32 (pl:Int)]++([.int .u32 (mn:Int)]++([.slice A2 n2 c2]++([.slice A3 n3 c3]))))):=X0.right m0
 have X2:XAt (rdC (Base.of w) [(g1,148,(cPG ⟨hd,tx,pl,mn,pa,sq⟩ (.slice A1 n1 c1) (.slice A2 n2 c2) (.slice A3 n3 c3)).toArray)]) g1 33 ([.int .u32 (pl:Int)]++([.int .u32 (mn:Int)]++([.slice A2 n2 c2]++([.slice A3 n3 c3])))):=X1.right (n:=1) rfl
 have X3:XAt (rdC (Base.of w) [(g1,148,(cPG ⟨hd,tx,pl,mn,pa,sq⟩ (.slice A1 n1 c1) (.slice A2 n2 c2) (.slice A3 n3 c3)).toArray)]) g1 34 ([.int .u32 (mn:Int)]++([.slice A2 n2 c2]++([.slice A3 n3 c3]))):=X2.right (n:=1) rfl
 have X4:XAt (rdC (Base.of w) [(g1,148,(cPG ⟨hd,tx,pl,mn,pa,sq⟩ (.slice A1 n1 c1) (.slice A2 n2 c2) (.slice A3 n3 c3)).toArray)]) g1 35 ([.slice A2 n2 c2]++([.slice A3 n3 c3])):=X3.right (n:=1) rfl
 have X5:XAt (rdC (Base.of w) [(g1,148,(cPG ⟨hd,tx,pl,mn,pa,sq⟩ (.slice A1 n1 c1) (.slice A2 n2 c2) (.slice A3 n3 c3)).toArray)]) g1 36 ([.slice A3 n3 c3]):=X4.right (n:=1) rfl
 refine sA ?_
 obtain ⟨b1,hb1⟩:=xE (decide (hd=z32))
 refine sP (pT g1 0)<|sS (.agg (hd.map bv).toArray) (BQ (R:=[(g1,148,(cPG ⟨hd,tx,pl,mn,pa,sq⟩ (.slice A1 n1 c1) (.slice A2 n2 c2) (.slice A3 n3 c3)).toArray)]) (g:=g1) (f:=0) (k:=32) (cs:=hd.map bv) X0.left (λy hy=>hy) m0 J Dd)<|sP (.agg (z32.map bv).toArray)<|sS (.bool b1) (Quiet.pure (λw=>by rw [hb1]; exact Ed w _ _ _ _ hd z32 h0 J J J J))<|sp J ?_
 cases b1
 case' false =>
  refine sN<|sN<|sN<|sN<|sP (.bool false)<|sp J<|sN<|sN<|sN<|sP (.bool false)<|sp J<|sN<|sN<|sN<|sP (.bool false)<|sp J<|sN<|sN<|sN<|sN<|sP (.bool false)<|sp J<|sN<|sN<|sN<|sN<|sP (.bool false)<|sp J<|sG<|Sy.ret ?_
  rw [hnul, ← hb1]
  exact rV (.bool false) rfl
 obtain ⟨b2,hb2⟩:=xE (decide (n1=0))
 refine sP (pT g1 32)<|sS (.slice A1 n1 c1) (AK (R:=[(g1,148,(cPG ⟨hd,tx,pl,mn,pa,sq⟩ (.slice A1 n1 c1) (.slice A2 n2 c2) (.slice A3 n3 c3)).toArray)]) (g:=g1) (f:=32) X1.one (λy hy=>hy) rfl Aw)<|sP (.int .i64 (n1:Int))<|sS (.bool b2) (qeq J J J hb2)<|sP (.bool b2)<|sp J ?_
 cases b2
 case' false =>
  refine sN<|sN<|sN<|sP (.bool false)<|sp J<|sN<|sN<|sN<|sP (.bool false)<|sp J<|sN<|sN<|sN<|sN<|sP (.bool false)<|sp J<|sN<|sN<|sN<|sN<|sP (.bool false)<|sp J<|sG<|Sy.ret ?_
  rw [hnul, ← hb1, ← hb2]
  exact rV (.bool false) rfl
 obtain ⟨b3,hb3⟩:=xE (decide (pl=0))
 refine sP (pT g1 33)<|sS (.int .u32 (pl:Int)) (AK (R:=[(g1,148,(cPG ⟨hd,tx,pl,mn,pa,sq⟩ (.slice A1 n1 c1) (.slice A2 n2 c2) (.slice A3 n3 c3)).toArray)]) (g:=g1) (f:=33) X2.one (λy hy=>hy) rfl F0)<|sS (.bool b3) (Quiet.pure (AE .eql _ _ _ .u32 _ _ _ J J J (Aa _ _ _ _ _ (by rw [hb3]; exact decide_eq_decide.2 om))))<|sP (.bool b3)<|sp J ?_
 cases b3
 case' false =>
  refine sN<|sN<|sN<|sP (.bool false)<|sp J<|sN<|sN<|sN<|sN<|sP (.bool false)<|sp J<|sN<|sN<|sN<|sN<|sP (.bool false)<|sp J<|sG<|Sy.ret ?_
  rw [hnul, ← hb1, ← hb2, ← hb3]
  exact rV (.bool false) rfl
 obtain ⟨b4,hb4⟩:=xE (decide (mn=0))
 refine sP (pT g1 34)<|sS (.int .u32 (mn:Int)) (AK (R:=[(g1,148,(cPG ⟨hd,tx,pl,mn,pa,sq⟩ (.slice A1 n1 c1) (.slice A2 n2 c2) (.slice A3 n3 c3)).toArray)]) (g:=g1) (f:=34) X3.one (λy hy=>hy) rfl F0)<|sS (.bool b4) (Quiet.pure (AE .eql _ _ _ .u32 _ _ _ J J J (Aa _ _ _ _ _ (by rw [hb4]; exact decide_eq_decide.2 om))))<|sP (.bool b4)<|sp J ?_
 cases b4
 case' false =>
  refine sN<|sN<|sN<|sN<|sP (.bool false)<|sp J<|sN<|sN<|sN<|sN<|sP (.bool false)<|sp J<|sG<|Sy.ret ?_
  rw [hnul, ← hb1, ← hb2, ← hb3, ← hb4]
  exact rV (.bool false) rfl
 obtain ⟨b5,hb5⟩:=xE (decide (n2=0))
 refine sP (pT g1 35)<|sS (.slice A2 n2 c2) (AK (R:=[(g1,148,(cPG ⟨hd,tx,pl,mn,pa,sq⟩ (.slice A1 n1 c1) (.slice A2 n2 c2) (.slice A3 n3 c3)).toArray)]) (g:=g1) (f:=35) X4.one (λy hy=>hy) rfl Dg)<|sP (.int .i64 (n2:Int))<|sS (.bool b5) (qeq J J J hb5)<|sP (.bool b5)<|sp J ?_
 cases b5
 case' false =>
  refine sN<|sN<|sN<|sN<|sP (.bool false)<|sp J<|sG<|Sy.ret ?_
  rw [hnul, ← hb1, ← hb2, ← hb3, ← hb4, ← hb5]
  exact rV (.bool false) rfl
 obtain ⟨b6,hb6⟩:=xE (decide (n3=0))
 refine sP (pT g1 36)<|sS (.slice A3 n3 c3) (AK (R:=[(g1,148,(cPG ⟨hd,tx,pl,mn,pa,sq⟩ (.slice A1 n1 c1) (.slice A2 n2 c2) (.slice A3 n3 c3)).toArray)]) (g:=g1) (f:=36) X5.one (λy hy=>hy) rfl Aw)<|sP (.int .i64 (n3:Int))<|sS (.bool b6) (qeq J J J hb6)<|sP (.bool b6)<|sp J<|sG<|Sy.ret ?_
 rw [hnul, ← hb1, ← hb2, ← hb3, ← hb4, ← hb5, ← hb6]
 exact rV (.bool b6) rfl
theorem QG (w0:Base) (gw:Nat) (bad:Bool) (s:Slc) (R:AA) (b:Byt) (x:Byt×Nat) (cs:List Value) (hx:Kd (rdW w0.world) cs x) (hb:BS s b) (hl:b.length+36≤70368744160000) (w:World) (hw:St w0 w (WB gw bad s R)) :
  AL 118 #[ptr gw,.agg cs.toArray] w (AQ w0 (Wd gw R true (Nd x) 36 bad b)):=by
 obtain ⟨id,ix⟩:=x
 obtain ⟨rfl,h1,h2⟩:=hx
 dsimp only at h1 h2
 have e0:(id.map bv).length=32:=by rw [List.length_map,h1]
 have hlen:(id.map bv++[Value.int .u32 (ix:Int)]).length=33:=by rw [List.length_append,e0]; rfl
 refine Sy.enterT (args:=[ptr gw,.agg (id.map bv++[Value.int .u32 (ix:Int)]).toArray]) hw Tryz.func118 J kL<|sC<|sM 142 (id.map bv++[Value.int .u32 (ix:Int)]).toArray (λg3=>?_) kR (λw=>Aq J J kZ hlen w)
 refine Sy.permS (M:=WB gw bad s (R++[(g3,142,(id.map bv++[Value.int .u32 (ix:Int)]).toArray)])) (List.Perm.of_eq (by simp only [List.append_assoc])) ?_
 have X0:XAt (rdC w0.inn [(g3,142,(id.map bv++[Value.int .u32 (ix:Int)]).toArray)]) g3 0 ((id.map bv++[Value.int .u32 (ix:Int)])):=λi u hu=>.inr ⟨_,_,List.mem_singleton.2 J,by rw [Nat.zero_add,List.getElem?_toArray]; exact hu⟩
 have X1:XAt (rdC w0.inn [(g3,142,(id.map bv++[Value.int .u32 (ix:Int)]).toArray)]) g3 32 [.int .u32 (ix:Int)]:=X0.right e0
 refine sA<|sp J<|sP (pT g3 0)<|sS (.agg (id.map bv).toArray) (BQ (R:=[(g3,142,(id.map bv++[Value.int .u32 (ix:Int)]).toArray)]) (g:=g3) (f:=0) (k:=32) (cs:=id.map bv) X0.left (λy hy=>Aj (List.mem_append_right R hy)) e0 J Dd)<|Sy.callT (λw hw=>Nh w0.inn gw bad s (R++[(g3,142,(id.map bv++[Value.int .u32 (ix:Int)]).toArray)]) b id h1 hb om w hw) (λu M hM=>?_)
 obtain ⟨s1,bad1,b1,q1,p1,rfl⟩:=hM
 have l1:b1.length≤b.length+32:=q1.len
 refine Sy.nil<|Sy.then_<|Sy.region<|sp J<|sP (pT g3 32)<|sS (.int .u32 (ix:Int)) (AK (R:=[(g3,142,(id.map bv++[Value.int .u32 (ix:Int)]).toArray)]) (g:=g3) (f:=32) X1.one (λy hy=>Aj (List.mem_append_right R hy)) J F0)<|sS (uZ (ix:Int)) (Quiet.pure (λw=>Hr w _ _ _ ix h2 J J))<|Sy.callT (λw hw=>Kt 4 dZ w0.inn gw bad1 s1 (R++[(g3,142,(id.map bv++[Value.int .u32 (ix:Int)]).toArray)]) b1 ix om p1 om w hw) (λu M hM=>?_)
 obtain ⟨s2,bad2,b2,q2,p2,rfl⟩:=hM
 have l2:b2.length≤b1.length+4:=q2.len
 refine Sy.nil ?_
 have q:=q1.then_ q2
 exact Sy.retT0 J (WB gw bad2 s2 R) (λ_ h=>Bo h) (λ_=>⟨s2,bad2,b2,q,p2,rfl⟩)
theorem Qv (w0:Base) (gw:Nat) (bad:Bool) (s:Slc) (R:AA) (b:Byt) (x:MIs) (cs:List Value) (hx:EE (rdW w0.world) cs x) (hb:BS s b) (hl:b.length+DQ x≤70368744160000) (w:World) (hw:St w0 w (WB gw bad s R)) :
  AL 119 #[ptr gw,.agg cs.toArray] w (AQ w0 (Wd gw R (C9 x) (D1 x) (DQ x) bad b)):=by
 obtain ⟨z,am,rg,tk,en,sc⟩:=x
 obtain ⟨vr,rfl,d1,h2,h3,h4,h5⟩:=hx
 dsimp only at d1 h2 h3 h4 h5
 unfold DQ at hl
 dsimp only at hl
 have m4:(en.map bv).length=32:=by rw [List.length_map,h4]
 have hlen:(cIS ⟨z,am,rg,tk,en,sc⟩ vr).length=50:=by simp only [cIS,cAM,List.length_append,m4,GP,Cd]; rfl
 refine Sy.enterT (args:=[ptr gw,.agg (cIS ⟨z,am,rg,tk,en,sc⟩ vr).toArray]) hw Tryz.func119 J kL<|sC<|sM 145 (cIS ⟨z,am,rg,tk,en,sc⟩ vr).toArray (λg3=>?_) kR (λw=>Aq J J kZ hlen w)
 refine Sy.permS (M:=WB gw bad s (R++[(g3,145,(cIS ⟨z,am,rg,tk,en,sc⟩ vr).toArray)])) (List.Perm.of_eq (by simp only [List.append_assoc])) ?_
 have X0:XAt (rdC w0.inn [(g3,145,(cIS ⟨z,am,rg,tk,en,sc⟩ vr).toArray)]) g3 0 ((cIS ⟨z,am,rg,tk,en,sc⟩ vr)):=λi u hu=>.inr ⟨_,_,List.mem_singleton.2 J,by rw [Nat.zero_add,List.getElem?_toArray]; exact hu⟩
 have X1:XAt (rdC w0.inn [(g3,145,(cIS ⟨z,am,rg,tk,en,sc⟩ vr).toArray)]) g3 1 (cAM am++([vr]++([uZ (tk:Int)]++(en.map bv++(Cu.fws sc))))):=X0.right (n:=1) rfl
 have X2:XAt (rdC w0.inn [(g3,145,(cIS ⟨z,am,rg,tk,en,sc⟩ vr).toArray)]) g3 12 ([vr]++([uZ (tk:Int)]++(en.map bv++(Cu.fws sc)))):=X1.right (n:=11) rfl
 have X3:XAt (rdC w0.inn [(g3,145,(cIS ⟨z,am,rg,tk,en,sc⟩ vr).toArray)]) g3 13 ([uZ (tk:Int)]++(en.map bv++(Cu.fws sc))):=X2.right (n:=1) rfl
 have X4:XAt (rdC w0.inn [(g3,145,(cIS ⟨z,am,rg,tk,en,sc⟩ vr).toArray)]) g3 14 (en.map bv++(Cu.fws sc)):=X3.right (n:=1) rfl
 have X5:XAt (rdC w0.inn [(g3,145,(cIS ⟨z,am,rg,tk,en,sc⟩ vr).toArray)]) g3 46 (Cu.fws sc):=X4.right m4
 refine sA<|sp J<|sP (pT g3 0)<|sS (.int .i64 z) (AK (R:=[(g3,145,(cIS ⟨z,am,rg,tk,en,sc⟩ vr).toArray)]) (g:=g3) (f:=0) X0.one (λy hy=>Aj (List.mem_append_right R hy)) J uy3)<|Sy.callT (λw hw=>Dh w0.inn gw bad s (R++[(g3,145,(cIS ⟨z,am,rg,tk,en,sc⟩ vr).toArray)]) b 0 2 z hb om w hw) (λu M hM=>?_)
 obtain ⟨s1,bad1,b1,q1,p1,rfl⟩:=hM
 have l1:b1.length≤b.length+1:=q1.len
 refine sG<|Sy.seq<|sC ?_
 by_cases h0:z=0
 ·subst h0
  obtain ⟨A,n,cp,rfl,k2,k3,k4,k5⟩:=h2
  have hnul:DL ⟨0,am,rg,tk,en,sc⟩=(Ev am && (decide (n=0) && (decide (tk=0) && (decide (en=z32) && decide (sc=0))))):=by unfold DL; dsimp only; rw [k2]
  refine sP (pT g3 0)<|sS (.int .i64 0) (AK (R:=[(g3,145,(cIS ⟨0,am,rg,tk,en,sc⟩ (.slice A n cp)).toArray)]) (g:=g3) (f:=0) X0.one (λy hy=>Aj (List.mem_append_right R hy)) J uy3)<|sP (.bool true)<|sG<|sT<|sC<|sp J ?_
  obtain ⟨b1,hb1⟩:=xE (Ev am)
  refine sP (pT g3 1)<|sS (.agg (cAM am).toArray) (BQ (R:=[(g3,145,(cIS ⟨0,am,rg,tk,en,sc⟩ (.slice A n cp)).toArray)]) (g:=g3) (f:=1) (k:=11) (cs:=cAM am) X1.left (λy hy=>Aj (List.mem_append_right R hy)) J J KQ)<|sP (.agg (cAM zAM).toArray)<|sS (.bool b1) (Quiet.pure (λw=>by rw [hb1]; exact RA w _ _ _ _ am J J J d1.2.1 d1.2.2))<|sp J ?_
  cases b1
  case' false =>
   refine sN<|sN<|sN<|sN<|sP (.bool false)<|sp J<|sN<|sN<|sN<|sP (.bool false)<|sp J<|sN<|sN<|sN<|sN<|sP (.bool false)<|sp J<|sN<|sN<|sN<|sN<|sP (.bool false) ?_
   have hv:DL ⟨0,am,rg,tk,en,sc⟩=false:=by rw [hnul, ← hb1]; first | rfl | (simp only [Bool.true_and,Bool.false_and])
   refine Sy.callT (λw hw=>A0 w0.inn gw bad1 false s1 (R++[(g3,145,(cIS ⟨0,am,rg,tk,en,sc⟩ (.slice A n cp)).toArray)]) w hw) (λu M hM=>?_)
   subst hM
   refine sG<|Sy.ret<|Sy.then_ret ?_
   have q:=(q1.then_ (Wrote.must false bad1 b1)).le (k':=DQ ⟨0,am,rg,tk,en,sc⟩) (by unfold DQ; dsimp only; omega)
   have e:C9 ⟨0,am,rg,tk,en,sc⟩=(okS 0 2 0 && false):=by rw [← hv]; rfl
   exact Sy.retT0 J (WB gw (bad1 || !false) s1 R) (λ_ h=>Bo h) (λ_=>⟨s1,bad1 || !false,b1,by rw [e]; exact q,p1,rfl⟩)
  obtain ⟨b2,hb2⟩:=xE (decide (n=0))
  refine sP (pT g3 12)<|sS (.slice A n cp) (AK (R:=[(g3,145,(cIS ⟨0,am,rg,tk,en,sc⟩ (.slice A n cp)).toArray)]) (g:=g3) (f:=12) X2.one (λy hy=>Aj (List.mem_append_right R hy)) J Aw)<|sP (.int .i64 (n:Int))<|sS (.bool b2) (qeq J J J hb2)<|sP (.bool b2)<|sp J ?_
  cases b2
  case' false =>
   refine sN<|sN<|sN<|sP (.bool false)<|sp J<|sN<|sN<|sN<|sN<|sP (.bool false)<|sp J<|sN<|sN<|sN<|sN<|sP (.bool false) ?_
   have hv:DL ⟨0,am,rg,tk,en,sc⟩=false:=by rw [hnul, ← hb1, ← hb2]; first | rfl | (simp only [Bool.true_and,Bool.false_and])
   refine Sy.callT (λw hw=>A0 w0.inn gw bad1 false s1 (R++[(g3,145,(cIS ⟨0,am,rg,tk,en,sc⟩ (.slice A n cp)).toArray)]) w hw) (λu M hM=>?_)
   subst hM
   refine sG<|Sy.ret<|Sy.then_ret ?_
   have q:=(q1.then_ (Wrote.must false bad1 b1)).le (k':=DQ ⟨0,am,rg,tk,en,sc⟩) (by unfold DQ; dsimp only; omega)
   have e:C9 ⟨0,am,rg,tk,en,sc⟩=(okS 0 2 0 && false):=by rw [← hv]; rfl
   exact Sy.retT0 J (WB gw (bad1 || !false) s1 R) (λ_ h=>Bo h) (λ_=>⟨s1,bad1 || !false,b1,by rw [e]; exact q,p1,rfl⟩)
  obtain ⟨b3,hb3⟩:=xE (decide (tk=0))
  refine sP (pT g3 13)<|sS (uZ (tk:Int)) (AK (R:=[(g3,145,(cIS ⟨0,am,rg,tk,en,sc⟩ (.slice A n cp)).toArray)]) (g:=g3) (f:=13) X3.one (λy hy=>Aj (List.mem_append_right R hy)) J CD)<|sS (.bool b3) (Quiet.pure (AE .eql _ _ _ .u64 _ _ _ J J J (Aa _ _ _ _ _ (by rw [hb3]; exact decide_eq_decide.2 om))))<|sP (.bool b3)<|sp J ?_
  cases b3
  case' false =>
   refine sN<|sN<|sN<|sN<|sP (.bool false)<|sp J<|sN<|sN<|sN<|sN<|sP (.bool false) ?_
   have hv:DL ⟨0,am,rg,tk,en,sc⟩=false:=by rw [hnul, ← hb1, ← hb2, ← hb3]; first | rfl | (simp only [Bool.true_and,Bool.false_and])
   refine Sy.callT (λw hw=>A0 w0.inn gw bad1 false s1 (R++[(g3,145,(cIS ⟨0,am,rg,tk,en,sc⟩ (.slice A n cp)).toArray)]) w hw) (λu M hM=>?_)
   subst hM
   refine sG<|Sy.ret<|Sy.then_ret ?_
   have q:=(q1.then_ (Wrote.must false bad1 b1)).le (k':=DQ ⟨0,am,rg,tk,en,sc⟩) (by unfold DQ; dsimp only; omega)
   have e:C9 ⟨0,am,rg,tk,en,sc⟩=(okS 0 2 0 && false):=by rw [← hv]; rfl
   exact Sy.retT0 J (WB gw (bad1 || !false) s1 R) (λ_ h=>Bo h) (λ_=>⟨s1,bad1 || !false,b1,by rw [e]; exact q,p1,rfl⟩)
  obtain ⟨b4,hb4⟩:=xE (decide (en=z32))
  refine sP (pT g3 14)<|sS (.agg (en.map bv).toArray) (BQ (R:=[(g3,145,(cIS ⟨0,am,rg,tk,en,sc⟩ (.slice A n cp)).toArray)]) (g:=g3) (f:=14) (k:=32) (cs:=en.map bv) X4.left (λy hy=>Aj (List.mem_append_right R hy)) m4 J Dd)<|sP (.agg (z32.map bv).toArray)<|sS (.bool b4) (Quiet.pure (λw=>by rw [hb4]; exact Ed w _ _ _ _ en z32 h4 J J J J))<|sP (.bool b4)<|sp J ?_
  cases b4
  case' false =>
   refine sN<|sN<|sN<|sN<|sP (.bool false) ?_
   have hv:DL ⟨0,am,rg,tk,en,sc⟩=false:=by rw [hnul, ← hb1, ← hb2, ← hb3, ← hb4]; first | rfl | (simp only [Bool.true_and,Bool.false_and])
   refine Sy.callT (λw hw=>A0 w0.inn gw bad1 false s1 (R++[(g3,145,(cIS ⟨0,am,rg,tk,en,sc⟩ (.slice A n cp)).toArray)]) w hw) (λu M hM=>?_)
   subst hM
   refine sG<|Sy.ret<|Sy.then_ret ?_
   have q:=(q1.then_ (Wrote.must false bad1 b1)).le (k':=DQ ⟨0,am,rg,tk,en,sc⟩) (by unfold DQ; dsimp only; omega)
   have e:C9 ⟨0,am,rg,tk,en,sc⟩=(okS 0 2 0 && false):=by rw [← hv]; rfl
   exact Sy.retT0 J (WB gw (bad1 || !false) s1 R) (λ_ h=>Bo h) (λ_=>⟨s1,bad1 || !false,b1,by rw [e]; exact q,p1,rfl⟩)
  obtain ⟨b5,hb5⟩:=xE (decide (sc=0))
  refine sP (pT g3 46)<|sS (fv sc) (BQ (R:=[(g3,145,(cIS ⟨0,am,rg,tk,en,sc⟩ (.slice A n cp)).toArray)]) (g:=g3) (f:=46) (k:=4) (cs:=Cu.fws sc) X5 (λy hy=>Aj (List.mem_append_right R hy)) J J Be)<|sP (fv 0)<|sS (.bool b5) (Quiet.pure (λw=>by rw [hb5]; exact LG w _ _ _ _ sc 0 J J J h5 dZ))<|sP (.bool b5) ?_
  have hv:DL ⟨0,am,rg,tk,en,sc⟩=b5:=by rw [hnul, ← hb1, ← hb2, ← hb3, ← hb4, ← hb5]; first | rfl | (simp only [Bool.true_and,Bool.false_and])
  refine Sy.callT (λw hw=>A0 w0.inn gw bad1 b5 s1 (R++[(g3,145,(cIS ⟨0,am,rg,tk,en,sc⟩ (.slice A n cp)).toArray)]) w hw) (λu M hM=>?_)
  subst hM
  refine sG<|Sy.ret<|Sy.then_ret ?_
  have q:=(q1.then_ (Wrote.must b5 bad1 b1)).le (k':=DQ ⟨0,am,rg,tk,en,sc⟩) (by unfold DQ; dsimp only; omega)
  have e:C9 ⟨0,am,rg,tk,en,sc⟩=(okS 0 2 0 && b5):=by rw [← hv]; rfl
  exact Sy.retT0 J (WB gw (bad1 || !b5) s1 R) (λ_ h=>Bo h) (λ_=>⟨s1,bad1 || !b5,b1,by rw [e]; exact q,p1,rfl⟩)
 refine sP (pT g3 0)<|sS (.int .i64 z) (AK (R:=[(g3,145,(cIS ⟨z,am,rg,tk,en,sc⟩ vr).toArray)]) (g:=g3) (f:=0) X0.one (λy hy=>Aj (List.mem_append_right R hy)) J uy3)<|sS (.bool false) (Quiet.pure (AE .eql _ _ _ .i64 _ _ _ J J J (Aa _ _ _ _ _ (decide_eq_false h0))))<|sG<|sU<|Sy.skip<|Sy.then_<|sC<|sp J<|sP (pT g3 1)<|sS (.agg (cAM am).toArray) (BQ (R:=[(g3,145,(cIS ⟨z,am,rg,tk,en,sc⟩ vr).toArray)]) (g:=g3) (f:=1) (k:=11) (cs:=cAM am) X1.left (λy hy=>Aj (List.mem_append_right R hy)) J J KQ)<|Sy.callT (λw hw=>Hb w0.inn gw bad1 s1 (R++[(g3,145,(cIS ⟨z,am,rg,tk,en,sc⟩ vr).toArray)]) b1 am d1.1 d1.2.1 d1.2.2 p1 om w hw) (λu M hM=>?_)
 obtain ⟨s2,bad2,b2,q2,p2,rfl⟩:=hM
 have l2:b2.length≤b1.length+34:=q2.len
 refine sA<|sp J<|sP (pT g3 12)<|sS vr (AK (R:=[(g3,145,(cIS ⟨z,am,rg,tk,en,sc⟩ vr).toArray)]) (g:=g3) (f:=12) X2.one (λy hy=>Aj (List.mem_append_right R hy)) J Aw)<|Sy.callT (λw hw=>Cb w0.inn gw bad2 s2 (R++[(g3,145,(cIS ⟨z,am,rg,tk,en,sc⟩ vr).toArray)]) b2 vr rg 6000 dZ p2 h2 om w hw) (λu M hM=>?_)
 obtain ⟨s3,bad3,b3,q3,p3,rfl⟩:=hM
 have l3:b3.length≤b2.length+(9+rg.length):=q3.len
 refine sA<|sp J<|sP (pT g3 13)<|sS (uZ (tk:Int)) (AK (R:=[(g3,145,(cIS ⟨z,am,rg,tk,en,sc⟩ vr).toArray)]) (g:=g3) (f:=13) X3.one (λy hy=>Aj (List.mem_append_right R hy)) J CD)<|Sy.callT (λw hw=>Kt 8 dZ w0.inn gw bad3 s3 (R++[(g3,145,(cIS ⟨z,am,rg,tk,en,sc⟩ vr).toArray)]) b3 tk h3 p3 om w hw) (λu M hM=>?_)
 obtain ⟨s4,bad4,b4,q4,p4,rfl⟩:=hM
 have l4:b4.length≤b3.length+8:=q4.len
 refine sA<|sp J<|sP (pT g3 14)<|sS (.agg (en.map bv).toArray) (BQ (R:=[(g3,145,(cIS ⟨z,am,rg,tk,en,sc⟩ vr).toArray)]) (g:=g3) (f:=14) (k:=32) (cs:=en.map bv) X4.left (λy hy=>Aj (List.mem_append_right R hy)) m4 J Dd)<|Sy.callT (λw hw=>Nh w0.inn gw bad4 s4 (R++[(g3,145,(cIS ⟨z,am,rg,tk,en,sc⟩ vr).toArray)]) b4 en h4 p4 om w hw) (λu M hM=>?_)
 obtain ⟨s5,bad5,b5,q5,p5,rfl⟩:=hM
 have l5:b5.length≤b4.length+32:=q5.len
 refine sA ?_
 obtain ⟨ok,hok⟩:=xE (J1 sc)
 refine sp J<|sP (pT g3 46)<|sS (fv sc) (BQ (R:=[(g3,145,(cIS ⟨z,am,rg,tk,en,sc⟩ vr).toArray)]) (g:=g3) (f:=46) (k:=4) (cs:=Cu.fws sc) X5 (λy hy=>Aj (List.mem_append_right R hy)) J J Be)<|sS (.bool ok) (qg (λw _=>by rw [hok]; exact O_ w sc h5))<|Sy.callT (λw hw=>A0 w0.inn gw bad5 ok s5 (R++[(g3,145,(cIS ⟨z,am,rg,tk,en,sc⟩ vr).toArray)]) w hw) (λu M hM=>?_)
 subst hM
 refine Sy.nil<|Sy.then_<|Sy.region<|sp J<|sP (pT g3 46)<|sS (fv sc) (BQ (R:=[(g3,145,(cIS ⟨z,am,rg,tk,en,sc⟩ vr).toArray)]) (g:=g3) (f:=46) (k:=4) (cs:=Cu.fws sc) X5 (λy hy=>Aj (List.mem_append_right R hy)) J J Be)<|Sy.callN kR 176 #[fv sc] kF _ (λw' _=>Cu.bscN w' sc h5) (λu M hM=>?_)
 obtain ⟨g,sq,cap,rfl,⟨hc1,hc2⟩,rfl⟩:=hM
 have hB:BytR (rdC w0.inn ((R++[(g3,145,(cIS ⟨z,am,rg,tk,en,sc⟩ vr).toArray)])++[(g,5,((Dn sc).map bv++sq).toArray)])) (.slice (pA g) 32 cap) (Dn sc):=⟨_,_,_,rfl,AN _,hc1,by simp only [maxLen]; omega,λ_=>⟨g,0,rfl,λj y hj=>.inr ⟨5,_,List.mem_append_right _ (List.mem_singleton.2 J),by rw [Nat.zero_add,List.getElem?_toArray,List.getElem?_append_left (by rw [List.length_map]; exact (List.getElem?_eq_some_iff.1 hj).1),List.getElem?_map,hj]; rfl⟩⟩⟩
 refine Sy.permS (M:=WB gw (bad5 || !ok) s5 ((R++[(g3,145,(cIS ⟨z,am,rg,tk,en,sc⟩ vr).toArray)])++[(g,5,((Dn sc).map bv++sq).toArray)])) (List.Perm.of_eq (by simp only [List.append_assoc]; rfl))<|Sy.callT (λw hw=>B_ w0.inn gw (bad5 || !ok) s5 ((R++[(g3,145,(cIS ⟨z,am,rg,tk,en,sc⟩ vr).toArray)])++[(g,5,((Dn sc).map bv++sq).toArray)]) b5 _ (Dn sc) p5 hB (by rw [show (Dn sc).length=32 from AN _]; omega) w hw) (λv M hM=>?_)
 obtain ⟨s6,p6,rfl⟩:=hM
 refine Sy.nil ?_
 have q6:=(Wrote.must ok bad5 b5).then_ (Wrote.raw (Dn sc) (bad5 || !ok) b5 (k:=32) (Nat.le_of_eq (AN _)))
 have q:=q1.then_ (q2.then_ (q3.then_ (q4.then_ (q5.then_ q6))))
 have fine:Wrote (C9 ⟨z,am,rg,tk,en,sc⟩) (D1 ⟨z,am,rg,tk,en,sc⟩) (DQ ⟨z,am,rg,tk,en,sc⟩) bad b (bad5 || !ok) (b5++Dn sc):=by
  have e3:D1 ⟨z,am,rg,tk,en,sc⟩=[CQ z]++Ip ⟨z,am,rg,tk,en,sc⟩:=by unfold D1; rw [if_neg h0]
  rw [Bool.true_and,Bool.true_and,Bool.and_true,hok,List.nil_append,Nat.zero_add] at q
  by_cases hk:z=1∨z=2
  ·have e1:okS 0 2 z=true:=by rcases hk with rfl|rfl <;> rfl
   have e2:C9 ⟨z,am,rg,tk,en,sc⟩=JL ⟨z,am,rg,tk,en,sc⟩:=by unfold C9; rw [if_neg h0,if_pos hk]
   rw [e1,Bool.true_and] at q
   rw [e2,e3,hok]
   exact q
  ·have e1:okS 0 2 z=false:=by
    cases hb:okS 0 2 z with
    | false=>rfl
    | true =>
     unfold okS at hb
     rw [Bool.and_eq_true,decide_eq_true_eq,decide_eq_true_eq] at hb
     exact (hk om).elim
   have e2:C9 ⟨z,am,rg,tk,en,sc⟩=false:=by unfold C9; rw [if_neg h0,if_neg hk]
   rw [e1,Bool.false_and] at q
   rw [e2,e3,hok]
   exact q
 exact Sy.retT0 J (WB gw (bad5 || !ok) s6 R) (λ_ h=>Bo (by simpa only [List.append_assoc] using h)) (λ_=>⟨s6,bad5 || !ok,_,fine,p6,rfl⟩)
theorem P9 (w0:Base) (gw:Nat) (bad:Bool) (s:Slc) (R:AA) (b:Byt) (x:MPg) (cs:List Value) (hx:ED (rdW w0.world) cs x) (hlo:x.path.length≤1000000000000) (hb:BS s b) (hl:b.length+Ek x≤70368744160000) (w:World) (hw:St w0 w (WB gw bad s R)) :
  AL 120 #[ptr gw,.agg cs.toArray] w (AQ w0 (Wd gw R (IP x) (GS x) (Ek x) bad b)):=by
 obtain ⟨hd,tx,pl,mn,pa,sq⟩:=x
 obtain ⟨vt,vp,vs,rfl,h1,h2,h3,h4,⟨A,n,cp,rfl,n1,n2,n3,n4⟩,h6⟩:=hx
 dsimp only at h1 h2 h3 h4 h6 n1 n4 hlo
 unfold Ek at hl
 dsimp only at hl
 have m0:(hd.map bv).length=32:=by rw [List.length_map,h1]
 have hlen:(cPG ⟨hd,tx,pl,mn,pa,sq⟩ vt (.slice A n cp) vs).length=37:=by simp only [cPG,List.length_append,m0]; rfl
 refine Sy.enterT (args:=[ptr gw,.agg (cPG ⟨hd,tx,pl,mn,pa,sq⟩ vt (.slice A n cp) vs).toArray]) hw Tryz.func120 J kL<|sC<|sM 148 (cPG ⟨hd,tx,pl,mn,pa,sq⟩ vt (.slice A n cp) vs).toArray (λg3=>?_) kR (λw=>Aq J J kZ hlen w)
 refine Sy.permS (M:=WB gw bad s (R++[(g3,148,(cPG ⟨hd,tx,pl,mn,pa,sq⟩ vt (.slice A n cp) vs).toArray)])) (List.Perm.of_eq (by simp only [List.append_assoc])) ?_
 have X0:XAt (rdC w0.inn [(g3,148,(cPG ⟨hd,tx,pl,mn,pa,sq⟩ vt (.slice A n cp) vs).toArray)]) g3 0 ((cPG ⟨hd,tx,pl,mn,pa,sq⟩ vt (.slice A n cp) vs)):=λi u hu=>.inr ⟨_,_,List.mem_singleton.2 J,by rw [Nat.zero_add,List.getElem?_toArray]; exact hu⟩
 have X1:XAt (rdC w0.inn [(g3,148,(cPG ⟨hd,tx,pl,mn,pa,sq⟩ vt (.slice A n cp) vs).toArray)]) g3 32 ([vt]++([.int .u32 (pl:Int)]++([.int .u32 (mn:Int)]++([.slice A n cp]++([vs]))))):=X0.right m0
 have X2:XAt (rdC w0.inn [(g3,148,(cPG ⟨hd,tx,pl,mn,pa,sq⟩ vt (.slice A n cp) vs).toArray)]) g3 33 ([.int .u32 (pl:Int)]++([.int .u32 (mn:Int)]++([.slice A n cp]++([vs])))):=X1.right (n:=1) rfl
 have X3:XAt (rdC w0.inn [(g3,148,(cPG ⟨hd,tx,pl,mn,pa,sq⟩ vt (.slice A n cp) vs).toArray)]) g3 34 ([.int .u32 (mn:Int)]++([.slice A n cp]++([vs]))):=X2.right (n:=1) rfl
 have X4:XAt (rdC w0.inn [(g3,148,(cPG ⟨hd,tx,pl,mn,pa,sq⟩ vt (.slice A n cp) vs).toArray)]) g3 35 ([.slice A n cp]++([vs])):=X3.right (n:=1) rfl
 have X5:XAt (rdC w0.inn [(g3,148,(cPG ⟨hd,tx,pl,mn,pa,sq⟩ vt (.slice A n cp) vs).toArray)]) g3 36 ([vs]):=X4.right (n:=1) rfl
 refine sA<|sp J<|sP (pT g3 0)<|sS (.agg (hd.map bv).toArray) (BQ (R:=[(g3,148,(cPG ⟨hd,tx,pl,mn,pa,sq⟩ vt (.slice A n cp) vs).toArray)]) (g:=g3) (f:=0) (k:=32) (cs:=hd.map bv) X0.left (λy hy=>Aj (List.mem_append_right R hy)) m0 J Dd)<|Sy.callT (λw hw=>Nh w0.inn gw bad s (R++[(g3,148,(cPG ⟨hd,tx,pl,mn,pa,sq⟩ vt (.slice A n cp) vs).toArray)]) b hd h1 hb om w hw) (λu M hM=>?_)
 obtain ⟨s1,bad1,b1,q1,p1,rfl⟩:=hM
 have l1:b1.length≤b.length+32:=q1.len
 refine sA<|sp J<|sP (pT g3 32)<|sS vt (AK (R:=[(g3,148,(cPG ⟨hd,tx,pl,mn,pa,sq⟩ vt (.slice A n cp) vs).toArray)]) (g:=g3) (f:=32) X1.one (λy hy=>Aj (List.mem_append_right R hy)) J Aw)<|Sy.callT (λw hw=>Cb w0.inn gw bad1 s1 (R++[(g3,148,(cPG ⟨hd,tx,pl,mn,pa,sq⟩ vt (.slice A n cp) vs).toArray)]) b1 vt tx 1024 dZ p1 h2 om w hw) (λu M hM=>?_)
 obtain ⟨s2,bad2,b2,q2,p2,rfl⟩:=hM
 have l2:b2.length≤b1.length+(9+tx.length):=q2.len
 refine sA<|sp J<|sP (pT g3 33)<|sS (.int .u32 (pl:Int)) (AK (R:=[(g3,148,(cPG ⟨hd,tx,pl,mn,pa,sq⟩ vt (.slice A n cp) vs).toArray)]) (g:=g3) (f:=33) X2.one (λy hy=>Aj (List.mem_append_right R hy)) J F0)<|sS (uZ (pl:Int)) (Quiet.pure (λw=>Hr w _ _ _ pl h3 J J))<|Sy.callT (λw hw=>Kt 4 dZ w0.inn gw bad2 s2 (R++[(g3,148,(cPG ⟨hd,tx,pl,mn,pa,sq⟩ vt (.slice A n cp) vs).toArray)]) b2 pl om p2 om w hw) (λu M hM=>?_)
 obtain ⟨s3,bad3,b3,q3,p3,rfl⟩:=hM
 have l3:b3.length≤b2.length+4:=q3.len
 refine sA<|sp J<|sP (pT g3 34)<|sS (.int .u32 (mn:Int)) (AK (R:=[(g3,148,(cPG ⟨hd,tx,pl,mn,pa,sq⟩ vt (.slice A n cp) vs).toArray)]) (g:=g3) (f:=34) X3.one (λy hy=>Aj (List.mem_append_right R hy)) J F0)<|sS (uZ (mn:Int)) (Quiet.pure (λw=>Hr w _ _ _ mn h4 J J))<|Sy.callT (λw hw=>Kt 4 dZ w0.inn gw bad3 s3 (R++[(g3,148,(cPG ⟨hd,tx,pl,mn,pa,sq⟩ vt (.slice A n cp) vs).toArray)]) b3 mn om p3 om w hw) (λu M hM=>?_)
 obtain ⟨s4,bad4,b4,q4,p4,rfl⟩:=hM
 have l4:b4.length≤b3.length+4:=q4.len
 refine sA<|sp J<|sP (pT g3 35)<|sS (.slice A n cp) (AK (R:=[(g3,148,(cPG ⟨hd,tx,pl,mn,pa,sq⟩ vt (.slice A n cp) vs).toArray)]) (g:=g3) (f:=35) X4.one (λy hy=>Aj (List.mem_append_right R hy)) J Dg)<|sP (.int .i64 (n:Int))<|Sy.callT (λw hw=>C_ w0.inn gw bad4 s4 (R++[(g3,148,(cPG ⟨hd,tx,pl,mn,pa,sq⟩ vt (.slice A n cp) vs).toArray)]) b4 n 32 om dZ p4 om w hw) (λu M hM=>?_)
 obtain ⟨s5,bad5,b5,q5,p5,rfl⟩:=hM
 have l5:b5.length≤b4.length+9:=q5.len
 refine sG<|Sy.seq<|sC<|sP (.int .i64 0)<|sG<|Sy.block ?_
 have hsum6:∀ i,((pa.take i).map (λ_=>32)).sum≤(pa.map (λ_=>32)).sum:=λi=>by
  have e:=congrArg (λz=>(z.map (λ_=>32)).sum) (List.take_append_drop i pa)
  simp only [List.map_append,List.sum_append] at e
  omega
 refine Sy.loopT (Y:=Slc×Bool×Byt) n (λi _=>[(0,ptr gw),(3,ptr g3),(4,.int .i64 (i:Int))]) (λ_ y=>WB gw y.2.1 y.1 (R++[(g3,148,(cPG ⟨hd,tx,pl,mn,pa,sq⟩ vt (.slice A n cp) vs).toArray)])) (λi y=>Wrote ((pa.take i).all (λ_=>true)) ((pa.take i).flatMap (λd=>d)) (((pa.take i).map (λ_=>32)).sum) bad5 b5 y.2.1 y.2.2∧BS y.1 y.2.2) (s5,bad5,b5) ⟨by
  have e:=Wrote.raw [] bad5 b5 (k:=0) (Nat.le_refl 0)
  rw [List.append_nil] at e
  exact e,p5⟩ ac3 (λ_ h=>h) (λi y hi hy=>?_)
 obtain ⟨s6,bad6,b6⟩:=y
 obtain ⟨q6,p6⟩:=hy
 dsimp only at q6 p6 ⊢
 refine Sy.seq<|sC ?_
 obtain ⟨t9,ht9⟩:=xE (decide (i<n))
 refine sp J<|sP (pT g3 35)<|sS (.slice A n cp) (AK (R:=[(g3,148,(cPG ⟨hd,tx,pl,mn,pa,sq⟩ vt (.slice A n cp) vs).toArray)]) (g:=g3) (f:=35) X4.one (λy hy=>Aj (List.mem_append_right R hy)) J Dg)<|sP (.int .i64 (n:Int))<|sS (.bool t9) (qls J J J ht9)<|sG ?_
 cases t9
 case' false =>
  have z3:=dN ht9
  obtain rfl:n=i:=om
  rw [List.take_of_length_le om] at q6
  have l6:b6.length≤b5.length+(pa.map (λ_=>32)).sum:=q6.len
  refine sU<|Sy.exit<|Sy.then_exit<|Sy.then_exit<|Sy.in_exit<|Sy.then_<|Sy.region<|sp J<|sP (pT g3 36)<|sS vs (AK (R:=[(g3,148,(cPG ⟨hd,tx,pl,mn,pa,sq⟩ vt (.slice A n cp) vs).toArray)]) (g:=g3) (f:=36) X5.one (λy hy=>Aj (List.mem_append_right R hy)) J Aw)<|Sy.callT (λw hw=>Cb w0.inn gw bad6 s6 (R++[(g3,148,(cPG ⟨hd,tx,pl,mn,pa,sq⟩ vt (.slice A n cp) vs).toArray)]) b6 vs sq 256 dZ p6 h6 om w hw) (λu M hM=>?_)
  obtain ⟨s7,bad7,b7,q7,p7,rfl⟩:=hM
  have l7:b7.length≤b6.length+(9+sq.length):=q7.len
  refine Sy.nil ?_
  have q:=q1.then_ (q2.then_ (q3.then_ (q4.then_ ((q5.then_ q6).then_ q7))))
  simp only [Bool.true_and,Bool.and_true,DP] at q
  rw [← n1] at q
  exact Sy.retT0 J (WB gw bad7 s7 R) (λ_ h=>Bo h) (λ_=>⟨s7,bad7,b7,q,p7,rfl⟩)
 have z3:=dY ht9
 obtain ⟨x,hx⟩:∃ x,pa[i]? = some x:=⟨_,List.getElem?_eq_getElem om⟩
 obtain ⟨g,o,hA,hq⟩:=n4 (by intro e; rw [e] at hx; cases hx)
 obtain ⟨cx,y1,y2,y3,y4⟩:=hq i x hx
 obtain ⟨rfl,_⟩:=id y3
 have d1:XAt (rdC w0.inn []) g (o+i*32) _:=λj u hu=>.inl (y4 j u hu)
 have htk:pa.take (i+1)=pa.take i++[x]:=by rw [List.take_add_one,hx]; rfl
 have hsi:=hsum6 (i+1)
 rw [htk] at hsi
 simp only [List.map_append,List.sum_append,List.map_cons,List.map_nil,List.sum_cons,List.sum_nil] at hsi
 have hyl:=q6.len
 refine sT<|Sy.skip<|Sy.then_<|Sy.seq<|Sy.block<|Sy.region<|sp J<|sP (pT g3 35)<|sS (.slice A n cp) (AK (R:=[(g3,148,(cPG ⟨hd,tx,pl,mn,pa,sq⟩ vt (.slice A n cp) vs).toArray)]) (g:=g3) (f:=35) X4.one (λy hy=>Aj (List.mem_append_right R hy)) J Dg)<|sp J<|sS (.pointer (some ⟨g,o+i*32,none⟩)) (Quiet.pure (BJ 146 _ _ _ A g o n cp i 32 .i64 hA J J J Dg kF z3))<|sS (.agg (x.map bv).toArray) (BQ (R:=[]) d1 (λy hy=>by cases hy) y1 J Dd)<|Sy.callT (λw hw=>Nh w0.inn gw bad6 s6 (R++[(g3,148,(cPG ⟨hd,tx,pl,mn,pa,sq⟩ vt (.slice A n cp) vs).toArray)]) b6 x y3.2 p6 om w hw) (λv M hM=>?_)
 obtain ⟨s9,bad9,b9,q9,p9,rfl⟩:=hM
 refine Sy.nil<|Sy.in_<|Sy.then_<|Sy.region<|sp J<|sS (iZ (i+1)) (qad J J J)<|sp J<|Sy.nil ?_
 have hW:=q6.then_ q9
 have hW':Wrote ((pa.take (i+1)).all (λ_=>true)) ((pa.take (i+1)).flatMap (λd=>d)) (((pa.take (i+1)).map (λ_=>32)).sum) bad5 b5 bad9 b9:=by
  rw [htk]
  simp only [List.all_append,List.flatMap_append,List.map_append,List.sum_append,List.all_cons,List.all_nil,List.flatMap_cons,List.flatMap_nil,List.map_cons,List.map_nil,List.sum_cons,List.sum_nil,Bool.and_true,List.append_nil,Nat.add_zero]
  first | exact hW | simpa only [Bool.and_true] using hW
 exact Sy.againT (s9,bad9,b9) z3 ⟨hW',p9⟩ ac3 (λw h=>h)
theorem Ti {P:Program} {w0:Base} {n:Nat} {Q:Exit→Act→World→Prop} {F:AJ} {L:AA} {c:Code} {T:Type} (FF:T→AJ) (LL:T→AA) (H:T→Prop) (h:∀ x,H x→X w0 n Q (FF x) (LL x) .normal) (k:(∀ x,H x→X w0 n Q (FF x) (LL x) .normal)→wpC P w0 n Q F L c):wpC P w0 n Q F L c:=k h
theorem NO {w0:Base} {n:Nat} {Q:Exit→Act→World→Prop} {F:AJ} {L:AA} {T:Type} {FF:T→AJ} {LL:T→AA} {H:T→Prop} (h:∀ x,H x→X w0 n Q (FF x) (LL x) .normal) (x:T) (hx:H x) (hF:∀ p∈FF x,F.lookup p.1=some p.2) (hL:∀ w,St w0 w L→St w0 w (LL x)):X w0 n Q F L .normal:=λa w ha hw=>h x hx a w (ha.all hF) (hL w hw)
theorem H3 {α:Type} {wt:α→Nat} (h:∀ x,1≤wt x) (l:List α):l.length≤(l.map wt).sum:=by
 induction l with
 | nil=>exact Nat.le_refl 0
 | cons x l ih=>have q:=h x; rw [List.length_cons,List.map_cons,List.sum_cons]; omega
def cIN (z:Int) (pt:Byt) (ix:Nat) (ci cg:List Value) (vw:Value):List Value:=[.int .i64 z]++((pt.map bv++[.int .u32 (ix:Int)])++(ci++(cg++[vw])))
def cTX (af:Nat) (vi vo:Value):List Value:=[.int .u64 (af:Int)]++([vi]++[vo])
theorem SD (p:MPg) {n:Nat} (h:Ek p≤n):p.path.length≤n:=by
 have q:=H3 (wt:=λ_:Byt=>32) (λ_=>dZ) p.path
 unfold Ek at h
 omega
theorem Sz (w0:Base) (gw:Nat) (bad:Bool) (s:Slc) (R:AA) (b:Byt) (x:MIn) (cs:List Value) (hx:CY (rdW w0.world) cs x) (hb:BS s b) (hl:b.length+Dp x≤1000000000000) (w:World) (hw:St w0 w (WB gw bad s R)) :
  AL 65 #[ptr gw,.agg cs.toArray] w (AQ w0 (Wd gw R (FT x) (D2 x) (Dp x) bad b)):=by
 obtain ⟨z,pt,ix,iss,pg,wi⟩:=x
 obtain ⟨ci,cg,vw,hcs,h1,h2,h3,h4,⟨A,n,cp,rfl,n1,n2,n3,n4⟩⟩:=hx
 obtain rfl:cs=cIN z pt ix ci cg (.slice A n cp):=hcs
 dsimp only at h1 h2 h3 h4 n1 n4
 unfold Dp at hl
 dsimp only at hl
 have m1:(pt.map bv++[Value.int .u32 (ix:Int)]).length=33:=by rw [List.length_append,List.length_map,h1]; rfl
 have m3:=NN h3
 have m4:=Qn h4
 have hlo:=SD pg (n:=1000000000000) om
 have hwi:=H3 (wt:=wtT) (λx=>by unfold wtT; omega) wi
 have hlen:(cIN z pt ix ci cg (.slice A n cp)).length=122:=by simp only [cIN,List.length_append,List.length_map,h1,m3,m4]; rfl
 refine Sy.enterT (args:=[ptr gw,.agg (cIN z pt ix ci cg (.slice A n cp)).toArray]) hw Tryz.func65 J kL<|sC<|sM 151 (cIN z pt ix ci cg (.slice A n cp)).toArray (λg3=>?_) kR (λw=>Aq J J kZ hlen w)
 refine Sy.permS (M:=WB gw bad s (R++[(g3,151,(cIN z pt ix ci cg (.slice A n cp)).toArray)])) (List.Perm.of_eq (by simp only [List.append_assoc])) ?_
 have X0:XAt (rdC w0.inn [(g3,151,(cIN z pt ix ci cg (.slice A n cp)).toArray)]) g3 0 ((cIN z pt ix ci cg (.slice A n cp))):=λi u hu=>.inr ⟨_,_,List.mem_singleton.2 J,by rw [Nat.zero_add,List.getElem?_toArray]; exact hu⟩
 have X1:XAt (rdC w0.inn [(g3,151,(cIN z pt ix ci cg (.slice A n cp)).toArray)]) g3 1 ((pt.map bv++[.int .u32 (ix:Int)])++(ci++(cg++([.slice A n cp])))):=X0.right (n:=1) rfl
 have X2:XAt (rdC w0.inn [(g3,151,(cIN z pt ix ci cg (.slice A n cp)).toArray)]) g3 34 (ci++(cg++([.slice A n cp]))):=X1.right m1
 have X3:XAt (rdC w0.inn [(g3,151,(cIN z pt ix ci cg (.slice A n cp)).toArray)]) g3 84 (cg++([.slice A n cp])):=X2.right m3
 have X4:XAt (rdC w0.inn [(g3,151,(cIN z pt ix ci cg (.slice A n cp)).toArray)]) g3 121 ([.slice A n cp]):=X3.right m4
 refine sA<|sp J<|sP (pT g3 0)<|sS (.int .i64 z) (AK (R:=[(g3,151,(cIN z pt ix ci cg (.slice A n cp)).toArray)]) (g:=g3) (f:=0) X0.one (λy hy=>Aj (List.mem_append_right R hy)) J uy3)<|Sy.callT (λw hw=>Dh w0.inn gw bad s (R++[(g3,151,(cIN z pt ix ci cg (.slice A n cp)).toArray)]) b 1 2 z hb om w hw) (λu M hM=>?_)
 obtain ⟨s1,bad1,b1,q1,p1,rfl⟩:=hM
 have l1:b1.length≤b.length+1:=q1.len
 refine sA<|sp J<|sP (pT g3 1)<|sS (.agg (pt.map bv++[Value.int .u32 (ix:Int)]).toArray) (BQ (R:=[(g3,151,(cIN z pt ix ci cg (.slice A n cp)).toArray)]) (g:=g3) (f:=1) (k:=33) (cs:=pt.map bv++[Value.int .u32 (ix:Int)]) X1.left (λy hy=>Aj (List.mem_append_right R hy)) m1 J TU)<|Sy.callT (λw hw=>QG w0.inn gw bad1 s1 (R++[(g3,151,(cIN z pt ix ci cg (.slice A n cp)).toArray)]) b1 (pt,ix) _ ⟨rfl,h1,h2⟩ p1 om w hw) (λu M hM=>?_)
 obtain ⟨s2,bad2,b2,q2,p2,rfl⟩:=hM
 have l2:b2.length≤b1.length+36:=q2.len
 refine sA<|sp J<|sP (pT g3 34)<|sS (.agg ci.toArray) (BQ (R:=[(g3,151,(cIN z pt ix ci cg (.slice A n cp)).toArray)]) (g:=g3) (f:=34) (k:=50) (cs:=ci) X2.left (λy hy=>Aj (List.mem_append_right R hy)) m3 J FW)<|Sy.callT (λw hw=>Qv w0.inn gw bad2 s2 (R++[(g3,151,(cIN z pt ix ci cg (.slice A n cp)).toArray)]) b2 iss ci h3 p2 om w hw) (λu M hM=>?_)
 obtain ⟨s3,bad3,b3,q3,p3,rfl⟩:=hM
 have l3:b3.length≤b2.length+DQ iss:=q3.len
 refine sG<|Sy.seq<|Ti (T:=Slc×Bool×Byt) (λ_=>[(0,ptr gw),(3,ptr g3)]) (λy=>WB gw y.2.1 y.1 (R++[(g3,151,(cIN z pt ix ci cg (.slice A n cp)).toArray)])) (λy=>Wrote (if z=2 then IP pg else DU pg) (if z=2 then GS pg else []) (Ek pg) bad3 b3 y.2.1 y.2.2∧BS y.1 y.2.2) (λy hy=>?_) (λK=>?_)
 case refine_2 =>
  refine sC ?_
  by_cases hk:z=2
  ·subst hk
   refine sP (pT g3 0)<|sS (.int .i64 2) (AK (R:=[(g3,151,(cIN 2 pt ix ci cg (.slice A n cp)).toArray)]) (g:=g3) (f:=0) X0.one (λy hy=>Aj (List.mem_append_right R hy)) J uy3)<|sP (.bool true)<|sG<|sT<|Sy.region<|sp J<|sP (pT g3 84)<|sS (.agg cg.toArray) (BQ (R:=[(g3,151,(cIN 2 pt ix ci cg (.slice A n cp)).toArray)]) (g:=g3) (f:=84) (k:=37) (cs:=cg) X3.left (λy hy=>Aj (List.mem_append_right R hy)) m4 J Hz)<|Sy.callT (λw hw=>P9 w0.inn gw bad3 s3 (R++[(g3,151,(cIN 2 pt ix ci cg (.slice A n cp)).toArray)]) b3 pg cg h4 hlo p3 om w hw) (λu M hM=>?_)
   obtain ⟨s4,bad4,b4,q4,p4,rfl⟩:=hM
   have l4:b4.length≤b3.length+Ek pg:=q4.len
   refine Sy.nil ?_
   exact NO K (s4,bad4,b4) ⟨q4,p4⟩ ac2 (λ_ h=>h)
  obtain ⟨vt,vp,vs,rfl,e1,⟨A1,n1_,c1,rfl,g1_,_⟩,e3,e4,⟨A2,n2_,c2,rfl,g2_,_⟩,⟨A3,n3_,c3,rfl,g3_,_⟩⟩:=h4
  obtain ⟨ok,hok⟩:=xE (DU pg)
  refine sP (pT g3 0)<|sS (.int .i64 z) (AK (R:=[(g3,151,(cIN z pt ix ci (cPG pg (.slice A1 n1_ c1) (.slice A2 n2_ c2) (.slice A3 n3_ c3)) (.slice A n cp)).toArray)]) (g:=g3) (f:=0) X0.one (λy hy=>Aj (List.mem_append_right R hy)) J uy3)<|sS (.bool false) (Quiet.pure (AE .eql _ _ _ .i64 _ _ _ J J J (Aa _ _ _ _ _ (decide_eq_false hk))))<|sG<|sU<|Sy.region<|sp J<|sP (pT g3 84)<|sS (.agg (cPG pg (.slice A1 n1_ c1) (.slice A2 n2_ c2) (.slice A3 n3_ c3)).toArray) (BQ (R:=[(g3,151,(cIN z pt ix ci (cPG pg (.slice A1 n1_ c1) (.slice A2 n2_ c2) (.slice A3 n3_ c3)) (.slice A n cp)).toArray)]) (g:=g3) (f:=84) (k:=37) (cs:=cPG pg (.slice A1 n1_ c1) (.slice A2 n2_ c2) (.slice A3 n3_ c3)) X3.left (λy hy=>Aj (List.mem_append_right R hy)) m4 J Hz)<|sS (.bool ok) (qg (λw _=>by rw [hok]; exact QW w pg A1 A2 A3 n1_ c1 n2_ c2 n3_ c3 g1_ g2_ g3_ e1))<|Sy.callT (λw hw=>A0 w0.inn gw bad3 ok s3 (R++[(g3,151,(cIN z pt ix ci (cPG pg (.slice A1 n1_ c1) (.slice A2 n2_ c2) (.slice A3 n3_ c3)) (.slice A n cp)).toArray)]) w hw) (λu M hM=>?_)
  subst hM
  refine Sy.nil ?_
  exact NO K (s3,bad3 || !ok,b3) ⟨by rw [if_neg hk,if_neg hk,hok]; exact (Wrote.must _ bad3 b3).le (Nat.zero_le _),p3⟩ ac2 (λ_ h=>h)
 obtain ⟨s4,bad4,b4⟩:=y
 obtain ⟨q4,p4⟩:=hy
 dsimp only at q4 p4 ⊢
 have l4:b4.length≤b3.length+Ek pg:=q4.len
 refine Sy.then_<|sC<|sp J<|sP (pT g3 121)<|sS (.slice A n cp) (AK (R:=[(g3,151,(cIN z pt ix ci cg (.slice A n cp)).toArray)]) (g:=g3) (f:=121) X4.one (λy hy=>Aj (List.mem_append_right R hy)) J Df)<|sP (.int .i64 (n:Int))<|Sy.callT (λw hw=>C_ w0.inn gw bad4 s4 (R++[(g3,151,(cIN z pt ix ci cg (.slice A n cp)).toArray)]) b4 n 16 om dZ p4 om w hw) (λu M hM=>?_)
 obtain ⟨s5,bad5,b5,q5,p5,rfl⟩:=hM
 have l5:b5.length≤b4.length+9:=q5.len
 refine sA<|sP (.int .i64 0)<|sG<|Sy.block ?_
 have hsum6:∀ i,((wi.take i).map wtT).sum≤(wi.map wtT).sum:=λi=>by
  have e:=congrArg (λz=>(z.map wtT).sum) (List.take_append_drop i wi)
  simp only [List.map_append,List.sum_append] at e
  omega
 refine Sy.loopT (Y:=Slc×Bool×Byt) n (λi _=>[(0,ptr gw),(3,ptr g3),(4,.int .i64 (i:Int))]) (λ_ y=>WB gw y.2.1 y.1 (R++[(g3,151,(cIN z pt ix ci cg (.slice A n cp)).toArray)])) (λi y=>Wrote ((wi.take i).all IQ) ((wi.take i).flatMap D_) (((wi.take i).map wtT).sum) bad5 b5 y.2.1 y.2.2∧BS y.1 y.2.2) (s5,bad5,b5) ⟨by
  have e:=Wrote.raw [] bad5 b5 (k:=0) (Nat.le_refl 0)
  rw [List.append_nil] at e
  exact e,p5⟩ ac3 (λ_ h=>h) (λi y hi hy=>?_)
 obtain ⟨s6,bad6,b6⟩:=y
 obtain ⟨q6,p6⟩:=hy
 dsimp only at q6 p6 ⊢
 refine Sy.seq<|sC ?_
 obtain ⟨t9,ht9⟩:=xE (decide (i<n))
 refine sp J<|sP (pT g3 121)<|sS (.slice A n cp) (AK (R:=[(g3,151,(cIN z pt ix ci cg (.slice A n cp)).toArray)]) (g:=g3) (f:=121) X4.one (λy hy=>Aj (List.mem_append_right R hy)) J Df)<|sP (.int .i64 (n:Int))<|sS (.bool t9) (qls J J J ht9)<|sG ?_
 cases t9
 case' false =>
  have z3:=dN ht9
  obtain rfl:n=i:=om
  rw [List.take_of_length_le om] at q6
  have l6:b6.length≤b5.length+(wi.map wtT).sum:=q6.len
  refine sU<|Sy.exit<|Sy.then_exit<|Sy.then_exit<|Sy.in_exit ?_
  have q:=q1.then_ (q2.then_ (q3.then_ (q4.then_ (q5.then_ q6))))
  have e:FT ⟨z,pt,ix,iss,pg,wi⟩=(okS 1 2 z && (C9 iss && ((if z=2 then IP pg else DU pg) && (decide (n≤16) && wi.all IQ)))):=by rw [← n1]; rfl
  have e2:D2 ⟨z,pt,ix,iss,pg,wi⟩=[CQ z]++(pt++(nb 4 ix++(D1 iss++((if z=2 then GS pg else [])++(Ap n++wi.flatMap D_))))):=by rw [← n1]; rfl
  rw [Bool.true_and] at q
  unfold Nd at q
  simp only [List.append_assoc] at q
  exact Sy.retT0 J (WB gw bad6 s6 R) (λ_ h=>Bo h) (λ_=>⟨s6,bad6,b6,by rw [e,e2]; exact q,p6,rfl⟩)
 have z3:=dY ht9
 obtain ⟨x,hx⟩:∃ x,wi[i]? = some x:=⟨_,List.getElem?_eq_getElem om⟩
 obtain ⟨g,o,hA,hq⟩:=n4 (by intro e; rw [e] at hx; cases hx)
 obtain ⟨cx,y1,y2,y3,y4⟩:=hq i x hx
 obtain ⟨vx,rfl,hvx⟩:=y3
 have d1:XAt (rdC w0.inn []) g (o+i*1) _:=λj u hu=>.inl (y4 j u hu)
 have htk:wi.take (i+1)=wi.take i++[x]:=by rw [List.take_add_one,hx]; rfl
 have hsi:=hsum6 (i+1)
 rw [htk] at hsi
 simp only [List.map_append,List.sum_append,List.map_cons,List.map_nil,List.sum_cons,List.sum_nil] at hsi
 have hyl:=q6.len
 refine sT<|Sy.skip<|Sy.then_<|Sy.seq<|Sy.block<|Sy.region<|sp J<|sP (pT g3 121)<|sS (.slice A n cp) (AK (R:=[(g3,151,(cIN z pt ix ci cg (.slice A n cp)).toArray)]) (g:=g3) (f:=121) X4.one (λy hy=>Aj (List.mem_append_right R hy)) J Df)<|sp J<|sS (.pointer (some ⟨g,o+i*1,none⟩)) (Quiet.pure (BJ 149 _ _ _ A g o n cp i 1 .i64 hA J J J Df kF z3))<|sS vx (AK (R:=[]) d1.one (λy hy=>by cases hy) rfl Aw)<|Sy.callT (λw hw=>Cb w0.inn gw bad6 s6 (R++[(g3,151,(cIN z pt ix ci cg (.slice A n cp)).toArray)]) b6 vx x 256 dZ p6 hvx (by have e9:wtT x=9+x.length:=rfl; omega) w hw) (λv M hM=>?_)
 obtain ⟨s9,bad9,b9,q9,p9,rfl⟩:=hM
 refine Sy.nil<|Sy.in_<|Sy.then_<|Sy.region<|sp J<|sS (iZ (i+1)) (qad J J J)<|sp J<|Sy.nil ?_
 have hW:=q6.then_ q9
 have hW':Wrote ((wi.take (i+1)).all IQ) ((wi.take (i+1)).flatMap D_) (((wi.take (i+1)).map wtT).sum) bad5 b5 bad9 b9:=by
  rw [htk]
  simp only [List.all_append,List.flatMap_append,List.map_append,List.sum_append,List.all_cons,List.all_nil,List.flatMap_cons,List.flatMap_nil,List.map_cons,List.map_nil,List.sum_cons,List.sum_nil,Bool.and_true,List.append_nil,Nat.add_zero]
  first | exact hW | simpa only [Bool.and_true] using hW
 exact Sy.againT (s9,bad9,b9) z3 ⟨hW',p9⟩ ac3 (λw h=>h)
theorem Rp (w0:Base) (gw:Nat) (bad:Bool) (s:Slc) (R:AA) (b:Byt) (x:MTr) (cs:List Value) (hx:Cp (rdW w0.world) cs x) (hb:BS s b) (hl:b.length+D' x≤1000000000000) (w:World) (hw:St w0 w (WB gw bad s R)) :
  AL 29 #[ptr gw,.agg cs.toArray] w (AQ w0 (Wd gw R (I1 x) (HO x) (D' x) bad b)):=by
 obtain ⟨af,is,os⟩:=x
 obtain ⟨vi,vo,hcs,h1,⟨A,n,cp,rfl,n1,m2,m3,n4⟩,⟨A2,n2,cp2,rfl,k1,k2,k3,k4⟩⟩:=hx
 obtain rfl:cs=cTX af (.slice A n cp) (.slice A2 n2 cp2):=hcs
 dsimp only at h1 n1 n4 k1 k4
 unfold D' at hl
 dsimp only at hl
 have hi9:=H3 (wt:=Dp) (λx=>by unfold Dp; omega) is
 have ho9:=H3 (wt:=D7) (λx=>by unfold D7; omega) os
 have hlen:(cTX af (.slice A n cp) (.slice A2 n2 cp2)).length=3:=rfl
 refine Sy.enterT (args:=[ptr gw,.agg (cTX af (.slice A n cp) (.slice A2 n2 cp2)).toArray]) hw Tryz.func29 J kL<|sC<|sM 26 (cTX af (.slice A n cp) (.slice A2 n2 cp2)).toArray (λg3=>?_) kR (λw=>Aq J J kZ hlen w)
 refine Sy.permS (M:=WB gw bad s (R++[(g3,26,(cTX af (.slice A n cp) (.slice A2 n2 cp2)).toArray)])) (List.Perm.of_eq (by simp only [List.append_assoc])) ?_
 have X0:XAt (rdC w0.inn [(g3,26,(cTX af (.slice A n cp) (.slice A2 n2 cp2)).toArray)]) g3 0 ((cTX af (.slice A n cp) (.slice A2 n2 cp2))):=λi u hu=>.inr ⟨_,_,List.mem_singleton.2 J,by rw [Nat.zero_add,List.getElem?_toArray]; exact hu⟩
 have X1:XAt (rdC w0.inn [(g3,26,(cTX af (.slice A n cp) (.slice A2 n2 cp2)).toArray)]) g3 1 ([.slice A n cp]++([.slice A2 n2 cp2])):=X0.right (n:=1) rfl
 have X2:XAt (rdC w0.inn [(g3,26,(cTX af (.slice A n cp) (.slice A2 n2 cp2)).toArray)]) g3 2 ([.slice A2 n2 cp2]):=X1.right (n:=1) rfl
 refine sA<|sp J<|sP (pT g3 0)<|sS (uZ (af:Int)) (AK (R:=[(g3,26,(cTX af (.slice A n cp) (.slice A2 n2 cp2)).toArray)]) (g:=g3) (f:=0) X0.one (λy hy=>Aj (List.mem_append_right R hy)) J CD)<|Sy.callT (λw hw=>Kt 8 dZ w0.inn gw bad s (R++[(g3,26,(cTX af (.slice A n cp) (.slice A2 n2 cp2)).toArray)]) b af h1 hb om w hw) (λu M hM=>?_)
 obtain ⟨s1,bad1,b1,q1,p1,rfl⟩:=hM
 have l1:b1.length≤b.length+8:=q1.len
 refine sA<|sp J<|sP (pT g3 1)<|sS (.slice A n cp) (AK (R:=[(g3,26,(cTX af (.slice A n cp) (.slice A2 n2 cp2)).toArray)]) (g:=g3) (f:=1) X1.one (λy hy=>Aj (List.mem_append_right R hy)) J Gi)<|sP (.int .i64 (n:Int))<|Sy.callT (λw hw=>C_ w0.inn gw bad1 s1 (R++[(g3,26,(cTX af (.slice A n cp) (.slice A2 n2 cp2)).toArray)]) b1 n 16 om dZ p1 om w hw) (λu M hM=>?_)
 obtain ⟨s2,bad2,b2,q2,p2,rfl⟩:=hM
 have l2:b2.length≤b1.length+9:=q2.len
 refine sG<|Sy.seq<|sC<|sP (.int .i64 0)<|sG<|Sy.block ?_
 have hsum3:∀ i,((is.take i).map Dp).sum≤(is.map Dp).sum:=λi=>by
  have e:=congrArg (λz=>(z.map Dp).sum) (List.take_append_drop i is)
  simp only [List.map_append,List.sum_append] at e
  omega
 refine Sy.loopT (Y:=Slc×Bool×Byt) n (λi _=>[(0,ptr gw),(3,ptr g3),(4,.int .i64 (i:Int))]) (λ_ y=>WB gw y.2.1 y.1 (R++[(g3,26,(cTX af (.slice A n cp) (.slice A2 n2 cp2)).toArray)])) (λi y=>Wrote ((is.take i).all FT) ((is.take i).flatMap D2) (((is.take i).map Dp).sum) bad2 b2 y.2.1 y.2.2∧BS y.1 y.2.2) (s2,bad2,b2) ⟨by
  have e:=Wrote.raw [] bad2 b2 (k:=0) (Nat.le_refl 0)
  rw [List.append_nil] at e
  exact e,p2⟩ ac3 (λ_ h=>h) (λi y hi hy=>?_)
 obtain ⟨s3,bad3,b3⟩:=y
 obtain ⟨q3,p3⟩:=hy
 dsimp only at q3 p3 ⊢
 refine Sy.seq<|sC ?_
 obtain ⟨t9,ht9⟩:=xE (decide (i<n))
 refine sp J<|sP (pT g3 1)<|sS (.slice A n cp) (AK (R:=[(g3,26,(cTX af (.slice A n cp) (.slice A2 n2 cp2)).toArray)]) (g:=g3) (f:=1) X1.one (λy hy=>Aj (List.mem_append_right R hy)) J Gi)<|sP (.int .i64 (n:Int))<|sS (.bool t9) (qls J J J ht9)<|sG ?_
 cases t9
 case' false =>
  have z3:=dN ht9
  obtain rfl:n=i:=om
  rw [List.take_of_length_le om] at q3
  have l3:b3.length≤b2.length+(is.map Dp).sum:=q3.len
  refine sU<|Sy.exit<|Sy.then_exit<|Sy.then_exit<|Sy.in_exit<|Sy.then_<|sC<|sp J<|sP (pT g3 2)<|sS (.slice A2 n2 cp2) (AK (R:=[(g3,26,(cTX af (.slice A n cp) (.slice A2 n2 cp2)).toArray)]) (g:=g3) (f:=2) X2.one (λy hy=>Aj (List.mem_append_right R hy)) J Gh)<|sP (.int .i64 (n2:Int))<|Sy.callT (λw hw=>C_ w0.inn gw bad3 s3 (R++[(g3,26,(cTX af (.slice A n cp) (.slice A2 n2 cp2)).toArray)]) b3 n2 16 om dZ p3 om w hw) (λu M hM=>?_)
  obtain ⟨s4,bad4,b4,q4,p4,rfl⟩:=hM
  have l4:b4.length≤b3.length+9:=q4.len
  refine sA<|sP (.int .i64 0)<|sG<|Sy.block ?_
  have hsum5:∀ i,((os.take i).map D7).sum≤(os.map D7).sum:=λi=>by
   have e:=congrArg (λz=>(z.map D7).sum) (List.take_append_drop i os)
   simp only [List.map_append,List.sum_append] at e
   omega
  refine Sy.loopT (Y:=Slc×Bool×Byt) n2 (λi _=>[(0,ptr gw),(3,ptr g3),(5,.int .i64 (i:Int))]) (λ_ y=>WB gw y.2.1 y.1 (R++[(g3,26,(cTX af (.slice A n cp) (.slice A2 n2 cp2)).toArray)])) (λi y=>Wrote ((os.take i).all Gq) ((os.take i).flatMap GT) (((os.take i).map D7).sum) bad4 b4 y.2.1 y.2.2∧BS y.1 y.2.2) (s4,bad4,b4) ⟨by
   have e:=Wrote.raw [] bad4 b4 (k:=0) (Nat.le_refl 0)
   rw [List.append_nil] at e
   exact e,p4⟩ ac3 (λ_ h=>h) (λi y hi hy=>?_)
  obtain ⟨s5,bad5,b5⟩:=y
  obtain ⟨q5,p5⟩:=hy
  dsimp only at q5 p5 ⊢
  refine Sy.seq<|sC ?_
  obtain ⟨t9,ht9⟩:=xE (decide (i<n2))
  refine sp J<|sP (pT g3 2)<|sS (.slice A2 n2 cp2) (AK (R:=[(g3,26,(cTX af (.slice A n cp) (.slice A2 n2 cp2)).toArray)]) (g:=g3) (f:=2) X2.one (λy hy=>Aj (List.mem_append_right R hy)) J Gh)<|sP (.int .i64 (n2:Int))<|sS (.bool t9) (qls J J J ht9)<|sG ?_
  cases t9
  case' false =>
   have z3:=dN ht9
   obtain rfl:n2=i:=om
   rw [List.take_of_length_le om] at q5
   have l5:b5.length≤b4.length+(os.map D7).sum:=q5.len
   refine sU<|Sy.exit<|Sy.then_exit<|Sy.then_exit<|Sy.in_exit ?_
   have q:=q1.then_ ((q2.then_ q3).then_ (q4.then_ q5))
   rw [Bool.true_and, ← n1, ← k1] at q
   exact Sy.retT0 J (WB gw bad5 s5 R) (λ_ h=>Bo h) (λ_=>⟨s5,bad5,b5,q,p5,rfl⟩)
  have z3:=dY ht9
  obtain ⟨x,hx⟩:∃ x,os[i]? = some x:=⟨_,List.getElem?_eq_getElem om⟩
  obtain ⟨g,o,hA,hq⟩:=k4 (by intro e; rw [e] at hx; cases hx)
  obtain ⟨cx,y1,y2,y3,y4⟩:=hq i x hx
  have d1:XAt (rdC w0.inn []) g (o+i*58) _:=λj u hu=>.inl (y4 j u hu)
  have htk:os.take (i+1)=os.take i++[x]:=by rw [List.take_add_one,hx]; rfl
  have hsi:=hsum5 (i+1)
  rw [htk] at hsi
  simp only [List.map_append,List.sum_append,List.map_cons,List.map_nil,List.sum_cons,List.sum_nil] at hsi
  have hyl:=q5.len
  refine sT<|Sy.skip<|Sy.then_<|Sy.seq<|Sy.block<|Sy.region<|sp J<|sP (pT g3 2)<|sS (.slice A2 n2 cp2) (AK (R:=[(g3,26,(cTX af (.slice A n cp) (.slice A2 n2 cp2)).toArray)]) (g:=g3) (f:=2) X2.one (λy hy=>Aj (List.mem_append_right R hy)) J Gh)<|sp J<|sS (.pointer (some ⟨g,o+i*58,none⟩)) (Quiet.pure (BJ 24 _ _ _ A2 g o n2 cp2 i 58 .i64 hA J J J Gh kF z3))<|sS (.agg cx.toArray) (BQ (R:=[]) d1 (λy hy=>by cases hy) y1 J OA)<|Sy.callT (λw hw=>QE w0.inn gw bad5 s5 (R++[(g3,26,(cTX af (.slice A n cp) (.slice A2 n2 cp2)).toArray)]) b5 x cx y3 p5 om w hw) (λv M hM=>?_)
  obtain ⟨s9,bad9,b9,q9,p9,rfl⟩:=hM
  refine Sy.nil<|Sy.in_<|Sy.then_<|Sy.region<|sp J<|sS (iZ (i+1)) (qad J J J)<|sp J<|Sy.nil ?_
  have hW:=q5.then_ q9
  have hW':Wrote ((os.take (i+1)).all Gq) ((os.take (i+1)).flatMap GT) (((os.take (i+1)).map D7).sum) bad4 b4 bad9 b9:=by
   rw [htk]
   simp only [List.all_append,List.flatMap_append,List.map_append,List.sum_append,List.all_cons,List.all_nil,List.flatMap_cons,List.flatMap_nil,List.map_cons,List.map_nil,List.sum_cons,List.sum_nil,Bool.and_true,List.append_nil,Nat.add_zero]
   first | exact hW | simpa only [Bool.and_true] using hW
  exact Sy.againT (s9,bad9,b9) z3 ⟨hW',p9⟩ ac3 (λw h=>h)
 have z3:=dY ht9
 obtain ⟨x,hx⟩:∃ x,is[i]? = some x:=⟨_,List.getElem?_eq_getElem om⟩
 obtain ⟨g,o,hA,hq⟩:=n4 (by intro e; rw [e] at hx; cases hx)
 obtain ⟨cx,y1,y2,y3,y4⟩:=hq i x hx
 have d1:XAt (rdC w0.inn []) g (o+i*122) _:=λj u hu=>.inl (y4 j u hu)
 have htk:is.take (i+1)=is.take i++[x]:=by rw [List.take_add_one,hx]; rfl
 have hsi:=hsum3 (i+1)
 rw [htk] at hsi
 simp only [List.map_append,List.sum_append,List.map_cons,List.map_nil,List.sum_cons,List.sum_nil] at hsi
 have hyl:=q3.len
 refine sT<|Sy.skip<|Sy.then_<|Sy.seq<|Sy.block<|Sy.region<|sp J<|sP (pT g3 1)<|sS (.slice A n cp) (AK (R:=[(g3,26,(cTX af (.slice A n cp) (.slice A2 n2 cp2)).toArray)]) (g:=g3) (f:=1) X1.one (λy hy=>Aj (List.mem_append_right R hy)) J Gi)<|sp J<|sS (.pointer (some ⟨g,o+i*122,none⟩)) (Quiet.pure (BJ 23 _ _ _ A g o n cp i 122 .i64 hA J J J Gi kF z3))<|sS (.agg cx.toArray) (BQ (R:=[]) d1 (λy hy=>by cases hy) y1 J KR)<|Sy.callT (λw hw=>Sz w0.inn gw bad3 s3 (R++[(g3,26,(cTX af (.slice A n cp) (.slice A2 n2 cp2)).toArray)]) b3 x cx y3 p3 om w hw) (λv M hM=>?_)
 obtain ⟨s9,bad9,b9,q9,p9,rfl⟩:=hM
 refine Sy.nil<|Sy.in_<|Sy.then_<|Sy.region<|sp J<|sS (iZ (i+1)) (qad J J J)<|sp J<|Sy.nil ?_
 have hW:=q3.then_ q9
 have hW':Wrote ((is.take (i+1)).all FT) ((is.take (i+1)).flatMap D2) (((is.take (i+1)).map Dp).sum) bad2 b2 bad9 b9:=by
  rw [htk]
  simp only [List.all_append,List.flatMap_append,List.map_append,List.sum_append,List.all_cons,List.all_nil,List.flatMap_cons,List.flatMap_nil,List.map_cons,List.map_nil,List.sum_cons,List.sum_nil,Bool.and_true,List.append_nil,Nat.add_zero]
  first | exact hW | simpa only [Bool.and_true] using hW
 exact Sy.againT (s9,bad9,b9) z3 ⟨hW',p9⟩ ac3 (λw h=>h)
theorem IR (w0:Base) (gr:Nat) (sl:Value) (b:Byt) (at_ e:Nat) (R:AA) (hat:at_≤b.length) (he:e≤200) (hl:b.length≤70368744177664) (hv:BytR (rdW w0.world) sl b) (w:World) (hw:St w0 w (RB gr sl at_ e R)) :
  AL 69 #[ptr gr,.int .i64 4] w (AQ w0 (Rfd (BT 4) (λx v N=>v=uZ (x:Int)∧x<4294967296∧N=[]) gr sl b R at_ e)):=by
 refine Sy.enterT (args:=[ptr gr,.int .i64 4]) hw Tryz.func69 J kL<|sC<|sP (uZ 0)<|sA<|sp J<|sp J<|Sy.callT (λw hw=>Dk w0.inn gr sl b at_ e 4 R hat he om hl hv w hw) (λu M hM=>?_)
 obtain ⟨x,a2,e2,N,q1,⟨q2,q3⟩,q4,q5,rfl⟩:=hM
 have hs:said x<4294967296:=by
  have h1:=Cm x
  rw [q3] at h1
  exact h1
 refine sS (uZ ((said x:Nat):Int)) (qg (λw' hw=>E7 w' u x om (q2.byt.le (λg o v h=>Ad (w0:=w0.inn) hw (R:=N) (λb hb=>List.mem_cons_of_mem _ (List.mem_append_right _ hb)) g o v (.inr h)))))<|sp J<|sG<|Sy.ret ?_
 exact Sy.retT1 (RB gr sl a2 e2 (R++[])) J (.inl (show _=_ by kernel_rfl)) (λ_ h=>h.less (((List.Sublist.refl R).append (List.nil_sublist N)).cons_cons _)) ⟨_,_,_,[],q1.bind (After.ret (said x) _),⟨rfl,hs,rfl⟩,q4,q5,rfl⟩
abbrev zePG:List Value:=((([]:List Value))++(Z32++([Value.slice none 0 0]++([Value.int .u32 0]++([Value.int .u32 0]++([Value.slice none 0 0]++([Value.slice none 0 0]++(([]:List Value)))))))))
theorem P_ (w0:Base) (gr:Nat) (sl:Value) (b:Byt) (at_ e:Nat) (R:AA) (hat:at_≤b.length) (he:e≤200) (hl:b.length≤70368744177664) (hv:BytR (rdW w0.world) sl b) (w:World) (hw:St w0 w (RB gr sl at_ e R)) :
  AL 129 #[ptr gr] w (AQ w0 (Rfd Jp (H9 37 ED) gr sl b R at_ e)):=by
 have L0:([]:List Value).length=0:=rfl
 refine Sy.enterT (args:=[ptr gr]) hw Tryz.func129 J kL<|sC<|sM 148 zePG.toArray (λg2=>?_)
 refine Sy.movT (pre:=[(gr,166,rrC sl at_ e)]) (T:=R)<|sA<|sM 148 ((([]:List Value))++(Z32++([Value.slice none 0 0]++([Value.int .u32 0]++([Value.int .u32 0]++([Value.slice none 0 0]++([Value.slice none 0 0]++(([]:List Value))))))))).toArray (λg3=>?_)
 refine Sy.movT (pre:=[(gr,166,rrC sl at_ e),(g2,148,zePG.toArray)]) (T:=R)<|sA<|sp J<|Sy.callT (λw hw=>Ca w0.inn gr sl b at_ e _ hat he hl hv w hw) (λu M hM=>?_)
 obtain ⟨x1,a1,e1,N1,p1,⟨rfl,r1,rfl⟩,u1,v1_,rfl⟩:=hM
 refine Sy.permS (List.Perm.of_eq (congrArg (RB gr sl a1 e1) (List.append_nil _))) ?_
 have n1:(x1.map bv).length=32:=by rw [List.length_map,r1]
 refine sP (pT g3 0)<|sw 2 J _ (wMa 37 (x1.map bv) 32 0 J kR kR kR L0 Cn n1 (Bv x1)) ?_
 have L1:(([]:List Value)++(x1.map bv)).length=32:=by rw [List.length_append,L0,n1]
 refine sA<|sp J<|Sy.callT (λw hw=>CK 1024 dZ w0.inn gr sl b a1 e1 ((g2,148,zePG.toArray)::(g3,148,((([]:List Value)++(x1.map bv))++([Value.slice none 0 0]++([Value.int .u32 0]++([Value.int .u32 0]++([Value.slice none 0 0]++([Value.slice none 0 0]++(([]:List Value)))))))).toArray)::R) u1 v1_ hl hv w hw) (λc2 M hM=>?_)
 obtain ⟨x2,a2,e2,N2,p2,r2,u2,v2_,rfl⟩:=hM
 refine Sy.permS (M:=RB gr sl a2 e2 ((g2,148,zePG.toArray)::(g3,148,((([]:List Value)++(x1.map bv))++([Value.slice none 0 0]++([Value.int .u32 0]++([Value.int .u32 0]++([Value.slice none 0 0]++([Value.slice none 0 0]++(([]:List Value)))))))).toArray)::(R++N2))) (List.Perm.of_eq (by simp only [List.cons_append,List.append_assoc])) ?_
 have hc2:=r2.byt.cells
 refine sP (pT g3 32)<|sw 2 J _ (wOa 27 c2 32 J kR kR kR hc2.1 hc2.2 L1) ?_
 have L2:(([]:List Value)++(x1.map bv)++([c2])).length=33:=by rw [List.length_append,L1]; rfl
 refine sA<|sp J<|Sy.callT (λw hw=>IR w0.inn gr sl b a2 e2 _ u2 v2_ hl hv w hw) (λu M hM=>?_)
 obtain ⟨x3,a3,e3,N3,p3,⟨rfl,r3,rfl⟩,u3,v3_,rfl⟩:=hM
 refine Sy.permS (List.Perm.of_eq (congrArg (RB gr sl a3 e3) (List.append_nil _)))<|sS (.int .u32 (x3:Int)) (Quiet.pure (λw=>Hq w _ _ _ x3 r3 J J))<|sP (pT g3 33)<|sw 2 J _ (wOa 140 (.int .u32 (x3:Int)) 33 J kR kR kR J J L2) ?_
 have L3:(([]:List Value)++(x1.map bv)++([c2])++([Value.int .u32 (x3:Int)])).length=34:=by rw [List.length_append,L2]; rfl
 refine sA<|sp J<|Sy.callT (λw hw=>IR w0.inn gr sl b a3 e3 _ u3 v3_ hl hv w hw) (λu M hM=>?_)
 obtain ⟨x4,a4,e4,N4,p4,⟨rfl,r4,rfl⟩,u4,v4_,rfl⟩:=hM
 refine Sy.permS (List.Perm.of_eq (congrArg (RB gr sl a4 e4) (List.append_nil _)))<|sS (.int .u32 (x4:Int)) (Quiet.pure (λw=>Hq w _ _ _ x4 r4 J J))<|sP (pT g3 34)<|sw 2 J _ (wOa 140 (.int .u32 (x4:Int)) 34 J kR kR kR J J L3) ?_
 have L4:(([]:List Value)++(x1.map bv)++([c2])++([Value.int .u32 (x3:Int)])++([Value.int .u32 (x4:Int)])).length=35:=by rw [List.length_append,L3]; rfl
 refine sA ?_
 obtain ⟨CP,hCP⟩:=xE ((([]:List Value)++(x1.map bv)++([c2])++([Value.int .u32 (x3:Int)])++([Value.int .u32 (x4:Int)])))
 rw [← hCP] at L4 ⊢
 refine sp J<|Sy.callT (λw hw=>C' w0.inn gr sl b a4 e4 32 ((g2,148,zePG.toArray)::(g3,148,(CP++([Value.slice none 0 0]++([Value.slice none 0 0]++(([]:List Value))))).toArray)::(R++N2)) u4 v4_ dZ hl hv w hw) (λu M hM=>?_)
 obtain ⟨nP,amP,emP,NmP,qmP,⟨rfl,hmP,rfl⟩,umP,vmP,rfl⟩:=hM
 rw [List.append_nil ((g2,148,zePG.toArray)::(g3,148,(CP++([Value.slice none 0 0]++([Value.slice none 0 0]++(([]:List Value))))).toArray)::(R++N2))]
 refine sp J<|sG<|Sy.seq<|sC<|sP (.int .i64 0)<|sG<|Sy.block<|Sy.loopT (Y:=RLsN Byt) nP (λi _=>[(0,ptr gr),(2,ptr g2),(3,ptr g3),(4,.int .i64 (nP:Int)),(5,.int .i64 (i:Int))]) (λ_ y=>[(gr,166,rrC sl y.at_ y.e),(g2,148,zePG.toArray),(g3,148,(CP++([y.r.v]++([Value.slice none 0 0]++(([]:List Value))))).toArray)]++(y.r.bl++((R++N2)++y.N))) (λi y=>After (Bz (An 32) i) ⟨b.drop amP,emP⟩ y.xs ⟨b.drop y.at_,y.e⟩∧y.at_≤b.length∧y.e≤200∧y.xs.length=i∧RowsOk 37 32 Bj y.r y.N y.xs) ⟨amP,emP,[],nilS,[]⟩ ⟨After.ret [] _,umP,vmP,rfl,RowsOk.nil⟩ ac5 (λ_ h=>h.perm (List.Perm.of_eq (congrArg (λz=>(gr,166,rrC sl amP emP)::(g2,148,zePG.toArray)::(g3,148,(CP++([Value.slice none 0 0]++([Value.slice none 0 0]++(([]:List Value))))).toArray)::z) (List.append_nil (R++N2)).symm))) (λi y hi hy=>?_)
 obtain ⟨alP,elP,xsP,rP,NlP⟩:=y
 obtain ⟨y1,ulP,vlP,y4,y5P⟩:=hy
 dsimp only at y1 ulP vlP y4 y5P ⊢
 obtain ⟨b3,hb3⟩:=xE (decide (i<nP∧elP=0))
 refine Sy.seq<|Sy.seq<|DN [(0,ptr gr),(2,ptr g2),(3,ptr g3),(4,.int .i64 (nP:Int)),(5,.int .i64 (i:Int)),(28,.bool b3)] ([(gr,166,rrC sl alP elP),(g2,148,zePG.toArray),(g3,148,(CP++([rP.v]++([Value.slice none 0 0]++(([]:List Value))))).toArray)]++(rP.bl++((R++N2)++NlP))) ?_ ?_
 ·refine Sy.region ?_
  obtain ⟨b1,hb1⟩:=xE (decide (i<nP))
  refine sp J<|sp J<|sS (.bool b1) (qls J J J hb1)<|sp J ?_
  cases b1
  ·obtain rfl:b3=false:=by rw [hb3]; exact decide_eq_false (λh=>of_decide_eq_false hb1.symm h.1)
   refine sN<|sN<|sP (.bool false)<|Sy.nil ?_
   exact A_ ac6 (λ_ h=>h)
  ·obtain ⟨b2,hb2⟩:=xE (decide (elP=0))
   obtain rfl:b3=b2:=by rw [hb3,hb2]; exact decide_eq_decide.2 ⟨λh=>h.2,λh=>⟨of_decide_eq_true hb1.symm,h⟩⟩
   refine sp J<|sS (.bool b3) (qg (λw hw=>by rw [hb2]; exact Dt w0.inn gr sl alP elP (List.mem_cons_self ..) w hw))<|sP (.bool b3)<|Sy.nil ?_
   exact A_ ac6 (λ_ h=>h)
 refine Sy.then_ ?_
 cases b3
 case' false =>
  have l3:=dN hb3
  have hAP:After (Bz (An 32) nP) ⟨b.drop amP,emP⟩ xsP ⟨b.drop alP,elP⟩:=by
   by_cases h:i<nP
   ·exact y1.stop (λh0=>l3 ⟨h,h0⟩) hi
   ·obtain rfl:nP=i:=om
    exact y1
  have hLP:=RowsOk.lst (rep:=Bj) Co y5P
  refine sU<|Sy.exit<|Sy.then_exit<|Sy.then_exit<|Sy.in_exit<|Sy.then_ ?_
  have L5:(CP++([rP.v])).length=36:=by rw [List.length_append,L4]; rfl
  refine sC<|Sy.permS (M:=RB gr sl alP elP ((g2,148,zePG.toArray)::(g3,148,((CP++([rP.v]))++([Value.slice none 0 0]++(([]:List Value)))).toArray)::(rP.bl++((R++N2)++NlP)))) (List.Perm.of_eq (by simp only [List.append_assoc,List.cons_append,List.nil_append]))<|sp J<|Sy.callT (λw hw=>CK 256 dZ w0.inn gr sl b alP elP ((g2,148,zePG.toArray)::(g3,148,((CP++([rP.v]))++([Value.slice none 0 0]++(([]:List Value)))).toArray)::(rP.bl++((R++N2)++NlP))) ulP vlP hl hv w hw) (λc5 M hM=>?_)
  obtain ⟨x5,a5,e5,N5,p5,r5,u5,v5_,rfl⟩:=hM
  refine Sy.permS (M:=RB gr sl a5 e5 ((g2,148,zePG.toArray)::(g3,148,((CP++([rP.v]))++([Value.slice none 0 0]++(([]:List Value)))).toArray)::((rP.bl++((R++N2)++NlP))++N5))) (List.Perm.of_eq (by simp only [List.cons_append,List.append_assoc])) ?_
  have hc5:=r5.byt.cells
  refine sP (pT g3 36)<|sw 2 J _ (wOa 27 c5 36 J kR kR kR hc5.1 hc5.2 L5) ?_
  have L6:(CP++([rP.v])++([c5])).length=37:=by rw [List.length_append,L5]; rfl
  have hAf:After Jp ⟨b.drop at_,e⟩ ⟨x1,x2,x3,x4,xsP,x5⟩ ⟨b.drop a5,e5⟩:=p1.bind (p2.bind (p3.bind (p4.bind ((qmP.bind hAP).bind (p5.bind (After.ret _ _))))))
  have hrp:ED (rdB (N2++(NlP++(rP.bl++(N5))))) ((CP++([rP.v])++([c5]))++([]:List Value)) ⟨x1,x2,x3,x4,xsP,x5⟩:=⟨c2,rP.v,c5,by rw [hCP]; simp only [cPG,List.append_assoc,List.append_nil,List.nil_append],r1,r2.byt.le (AV λb h=>by simp [h]),r3,r4,LstR.le (rep:=Bj) Co (AV λb h=>by simp only [List.mem_append] at h ⊢; rcases h with h | h <;> simp [h]) hLP,r5.byt.le (AV λb h=>by simp [h])⟩
  have hln:((CP++([rP.v])++([c5]))++([]:List Value)).length=37:=by rw [List.length_append,L6]; rfl
  have hon:∀ u∈((CP++([rP.v])++([c5]))++([]:List Value)),u.oneCell'=true:=QM hrp
  refine sA<|sS (.agg ((CP++([rP.v])++([c5]))++([]:List Value)).toArray) (Quiet.mid 2 g3 0 37 148 148 ((CP++([rP.v])++([c5]))++([]:List Value)) ((CP++([rP.v])++([c5]))++([]:List Value)) _ _ J kR J Hz J kR (by rw [List.drop_zero,List.take_of_length_le om]) om)<|sw 1 J ((CP++([rP.v])++([c5]))++([]:List Value)).toArray (Writes.row 148 ((CP++([rP.v])++([c5]))++([]:List Value)) 37 _ _ J kR kR kR hln kZ hon)<|sG<|Sy.ret ?_
  exact Sy.retT1 (RB gr sl a5 e5 (R++(N2++(NlP++(rP.bl++(N5)))))) J (.inl (Sy.Res.cell (ty':=148) g2 1 ((CP++([rP.v])++([c5]))++([]:List Value)).toArray _ kZ J Hz J (by rw [List.size_toArray,hln]; kernel_rfl) rfl)) (λ_ h=>Sy.St.parts (ls:=[[(gr,166,rrC sl a5 e5)],[(g2,148,((CP++([rP.v])++([c5]))++([]:List Value)).toArray)],[(g3,148,((CP++([rP.v])++([c5]))++([]:List Value)).toArray)],rP.bl,R,N2,NlP,N5]) (ms:=[[(gr,166,rrC sl a5 e5)],R,N2,NlP,rP.bl,N5]) [[(g2,148,((CP++([rP.v])++([c5]))++([]:List Value)).toArray)],[(g3,148,((CP++([rP.v])++([c5]))++([]:List Value)).toArray)]] [0,4,5,6,3,7,1,2] kZ (by rfl) (by simp) (by simp) h) ⟨_,a5,e5,N2++(NlP++(rP.bl++(N5))),hAf,⟨((CP++([rP.v])++([c5]))++([]:List Value)),rfl,hln,hon,hrp⟩,u5,v5_,rfl⟩
 obtain ⟨l1,l2⟩:i<nP∧elP=0:=of_decide_eq_true hb3.symm
 obtain ⟨ys,t1,t2,t3⟩:=y5P
 refine sT<|Sy.skip<|Sy.then_<|Sy.seq<|Sy.block<|Sy.regionD (λj=>j == 3 || j == 5 || j == 7) kR<|sb 0 J (pT g3 35)<|sa 2 J J<|Sy.joinG (T:=Byt×Nat×Nat×Nat×List Value×AA) (λy=>[(0,ptr gr),(2,ptr g2),(3,ptr g3),(4,.int .i64 (nP:Int)),(5,.int .i64 (i:Int)),(32,rP.v),(34,.agg y.2.2.2.2.1.toArray),(35,.slice (some ⟨y.2.2.2.1,0,none⟩) 1 1)]) (λy=>[(gr,166,rrC sl y.2.1 y.2.2.1),(g2,148,zePG.toArray),(g3,148,(CP++([rP.v]++([Value.slice none 0 0]++(([]:List Value))))).toArray),(y.2.2.2.1,37,y.2.2.2.2.1.toArray)]++(rP.bl++((R++N2)++(NlP++y.2.2.2.2.2)))) (λy=>After (An 32) ⟨b.drop alP,elP⟩ y.1 ⟨b.drop y.2.1,y.2.2.1⟩∧y.2.2.2.2.1.length=32∧(∀ u∈y.2.2.2.2.1,u.oneCell'=true)∧Bj (rdB y.2.2.2.2.2) y.2.2.2.2.1 y.1∧y.2.1≤b.length∧y.2.2.1≤200) 3 #[true,true,true,true,true,false,false,false] (λy hy=>?_) (λk=>?_)
 case refine_2 =>
  refine Sy.anyOf [1,3] kZ dZ (Sy.each2 ?_ ?_)
  ·refine Sy.oneQuiet J kZ rP.v (Quiet.cell 2 g3 35 148 146 (CP++([rP.v]++([Value.slice none 0 0]++(([]:List Value))))).toArray _ _ J kR J Dg J _ (by rw [List.getElem?_toArray,List.getElem?_append_right (Nat.le_of_eq L4),L4]; rfl)) ?_
   refine Sy.soleD 3 J (λQ2 hq2=>?_)
   refine Sy.callT (λw hw=>Ca w0.inn gr sl b alP elP ((g2,148,zePG.toArray)::(g3,148,(CP++([rP.v]++([Value.slice none 0 0]++(([]:List Value))))).toArray)::(rP.bl++((R++N2)++NlP))) ulP vlP hl hv w hw) (λu M hM=>?_)
   obtain ⟨x2',a4',e4',N5',s1,⟨rfl,t0,_⟩,s3,s4,rfl⟩:=hM
   obtain ⟨cx,hcx⟩:=xE (x2'.map bv)
   have t5:cx.length=32:=by rw [hcx,List.length_map,t0]
   have t6:∀ u∈cx,u.oneCell'=true:=by rw [hcx]; exact Bv _
   have t7:Bj (rdB N5') cx x2':=⟨hcx,t0⟩
   rw [← hcx]
   refine Sy.permS (M:=[(gr,166,rrC sl a4' e4'),(g2,148,zePG.toArray),(g3,148,(CP++([rP.v]++([Value.slice none 0 0]++(([]:List Value))))).toArray)]++(rP.bl++((R++N2)++(NlP++N5')))) (List.Perm.of_eq (by simp only [List.append_assoc,List.cons_append,List.nil_append]))<|hq2 _ _<|Sy.makeD 4 J kR kR 37 cx.toArray (λg=>.slice (pA g) 1 1) (Makes.one 146 37 _ _ 32 _ cx J kR Dg E4 J J t5 dZ dZ) (λg7=>?_)
   exact C4 k (x2',a4',e4',g7,cx,N5') ⟨s1,t5,t6,t7,s3,s4⟩ rfl ac8 (Sy.mov_perm (pre:=[(gr,166,rrC sl a4' e4'),(g2,148,zePG.toArray),(g3,148,(CP++([rP.v]++([Value.slice none 0 0]++(([]:List Value))))).toArray)]) (T:=rP.bl++((R++N2)++(NlP++N5'))))
  ·refine Oe J kZ J (λQ2 hq2=>?_)
   refine Sy.callT (λw hw=>Ca w0.inn gr sl b alP elP ((g2,148,zePG.toArray)::(g3,148,(CP++([rP.v]++([Value.slice none 0 0]++(([]:List Value))))).toArray)::(rP.bl++((R++N2)++NlP))) ulP vlP hl hv w hw) (λu M hM=>?_)
   obtain ⟨x2',a4',e4',N5',s1,⟨rfl,t0,_⟩,s3,s4,rfl⟩:=hM
   obtain ⟨cx,hcx⟩:=xE (x2'.map bv)
   have t5:cx.length=32:=by rw [hcx,List.length_map,t0]
   have t6:∀ u∈cx,u.oneCell'=true:=by rw [hcx]; exact Bv _
   have t7:Bj (rdB N5') cx x2':=⟨hcx,t0⟩
   rw [← hcx]
   refine Sy.permS (M:=[(gr,166,rrC sl a4' e4'),(g2,148,zePG.toArray),(g3,148,(CP++([rP.v]++([Value.slice none 0 0]++(([]:List Value))))).toArray)]++(rP.bl++((R++N2)++(NlP++N5')))) (List.Perm.of_eq (by simp only [List.append_assoc,List.cons_append,List.nil_append]))<|hq2 _ _<|Sy.anyOf [1,4] kZ dZ (Sy.each2 ?_ ?_)
   ·refine Sy.oneQuiet J kZ rP.v (Quiet.cell 2 g3 35 148 146 (CP++([rP.v]++([Value.slice none 0 0]++(([]:List Value))))).toArray _ _ J kR J Dg J _ (by rw [List.getElem?_toArray,List.getElem?_append_right (Nat.le_of_eq L4),L4]; rfl)) ?_
    refine Sy.makeD 4 J kR kR 37 cx.toArray (λg=>.slice (pA g) 1 1) (Makes.one 146 37 _ _ 32 _ cx J kR Dg E4 J J t5 dZ dZ) (λg7=>?_)
    exact C4 k (x2',a4',e4',g7,cx,N5') ⟨s1,t5,t6,t7,s3,s4⟩ rfl ac8 (Sy.mov_perm (pre:=[(gr,166,rrC sl a4' e4'),(g2,148,zePG.toArray),(g3,148,(CP++([rP.v]++([Value.slice none 0 0]++(([]:List Value))))).toArray)]) (T:=rP.bl++((R++N2)++(NlP++N5'))))
   ·refine Sy.oneMake J kZ 37 cx.toArray (λg=>.slice (pA g) 1 1) (Makes.one 146 37 _ _ 32 _ cx J kR Dg E4 J J t5 dZ dZ) (λg7=>?_)
    refine Sy.anyOf [1] kZ dZ (Sy.each1 ?_)
    refine Sy.oneQuiet J kZ rP.v (Quiet.cell 2 g3 35 148 146 (CP++([rP.v]++([Value.slice none 0 0]++(([]:List Value))))).toArray _ _ J kR J Dg J _ (by rw [List.getElem?_toArray,List.getElem?_append_right (Nat.le_of_eq L4),L4]; rfl)) ?_
    exact C4 k (x2',a4',e4',g7,cx,N5') ⟨s1,t5,t6,t7,s3,s4⟩ rfl ac8 (Sy.mov_perm (pre:=[(gr,166,rrC sl a4' e4'),(g2,148,zePG.toArray),(g3,148,(CP++([rP.v]++([Value.slice none 0 0]++(([]:List Value))))).toArray)]) (T:=rP.bl++((R++N2)++(NlP++N5'))))
 obtain ⟨z2,z4,w4,g7,cx,N6⟩:=y
 obtain ⟨s1,t5,t6,t7,s3,s4⟩:=hy
 dsimp only at s1 t5 t6 t7 s3 s4 ⊢
 refine Sy.soleD 5 J (λQ2 hq2=>?_)
 refine Sy.appendR (pre:=[(gr,166,rrC sl z4 w4),(g2,148,zePG.toArray),(g3,148,(CP++([rP.v]++([Value.slice none 0 0]++(([]:List Value))))).toArray),(g7,37,cx.toArray)]) (T:=(R++N2)++(NlP++N6)) kR 146 37 _ _ 32 32 Dg E4 J J J J dZ _ _ J t1 kR cx t5 t6 3 g7 37 kR kR om (by simp only [maxLen]; omega) (λr' hr'=>?_)
 refine hq2 _ _<|sb 6 J (pT g3 35)<|sx 7 J 2 J (CP++([r'.v]++([Value.slice none 0 0]++(([]:List Value))))).toArray (Writes.one 35 146 r'.v _ _ J kR kR kR hr'.cells.1 hr'.cells.2 (by rw [List.size_toArray,List.length_append,L4]; exact Nat.lt_add_of_pos_right (Nat.succ_pos _)) (Bt L4))<|sE<|Sy.in_<|Sy.then_<|Sy.region<|sp J<|sS (iZ (i+1)) (qad J J J)<|sp J<|Sy.nil ?_
 have hrows:RowsOk 37 32 Bj r' (NlP++N6) (xsP++[z2]):=RowsOk.add (rep:=Bj) t2 (λj x hx=>by
  obtain ⟨c,d1,d2⟩:=t3 j x hx
  exact ⟨c,d1,Co (AV λb h=>List.mem_append_left _ h) d2⟩) hr' (Co (AV λb h=>List.mem_append_right _ h) t7)
 exact Sy.againT ⟨z4,w4,xsP++[z2],r',NlP++N6⟩ l1 ⟨y1.snoc s1,s3,s4,by show (xsP++[_]).length=_; rw [List.length_append,y4]; rfl,hrows⟩ ac5 (λw h=>Sy.St.parts (ls:=[[(gr,166,rrC sl z4 w4),(g2,148,zePG.toArray),(g3,148,(CP++([r'.v]++([Value.slice none 0 0]++(([]:List Value))))).toArray)],[(g7,37,cx.toArray)],r'.bl++((R++N2)++(NlP++N6))]) (ms:=[[(gr,166,rrC sl z4 w4),(g2,148,zePG.toArray),(g3,148,(CP++([r'.v]++([Value.slice none 0 0]++(([]:List Value))))).toArray)],r'.bl++((R++N2)++(NlP++N6))]) [[(g7,37,cx.toArray)]] [0,2,1] kZ (by rfl) (by simp) (by simp) h)
theorem After.off {α:Type} {p:Ps α} {s:RS} (y:α) (h:s.e≠0):After p s y s:=⟨λh=>h,λ_ _ h0 _=>(h h0).elim,λh0 _=>(h h0).elim⟩
theorem Ms {α:Type} (lo hi:Nat) (k:Int→Bool) (hk:∀ n:Nat,k (n:Int)=decide (lo≤n∧n≤hi)) (f:Int→Ps α):AH (DJ lo hi) f=AH CH λz=>AH (BH (k z)) λ_=>f z:=by
 funext l
 cases h:BT 1 l with
 | none =>
  have h1:DJ lo hi l=none:=by unfold DJ; exact bind_none h
  have h2:CH l=none:=by unfold CH; exact bind_none h
  rw [bind_none h1,bind_none h2]
 | some u =>
  obtain ⟨n,r⟩:=u
  have h2:CH l=some ((n:Int),r):=by unfold CH; rw [bind_some h]; rfl
  rw [bind_some h2,hk]
  cases hd:decide (lo≤n∧n≤hi) with
  | true =>
   have h1:DJ lo hi l=some ((n:Int),r):=by
    unfold DJ
    rw [bind_some h,hd]
    rfl
   rw [bind_some h1]
   rfl
  | false =>
   have h1:DJ lo hi l=none:=by
    unfold DJ
    rw [bind_some h,hd]
    rfl
   rw [bind_none h1]
   rfl
theorem T9 {α:Type} (f:Int→Ps α):AH (DJ 1 2) f=AH CH λz=>AH (BH (GG z)) λ_=>f z:=Ms 1 2 GG (λn=>by
 unfold GG
 by_cases h:1≤n∧n≤2
 ·rw [decide_eq_true h,decide_eq_true (show (1:Int)≤n by omega),decide_eq_true (show (n:Int)≤2 by omega)]; rfl
 ·rw [decide_eq_false h]
  by_cases h1:(1:Int)≤n
  ·rw [decide_eq_false (show ¬ (n:Int)≤2 by omega),Bool.and_false]
  ·rw [decide_eq_false h1,Bool.false_and]) f
def UU (z:Int):Bool:=decide (0≤z) && decide (z≤2)
theorem Li:AH (DJ 0 2) (λk=>if k=0 then BF zIS else K8 k)=He:=by
 rw [Ms 0 2 UU (λn=>by
  unfold UU
  rw [decide_eq_true (show (0:Int)≤n by omega),Bool.true_and]
  exact decide_eq_decide.2 om)]
 unfold He
 congr 1
 funext k
 by_cases h0:k=0
 ·rw [if_pos h0,if_pos h0,h0]; rfl
 ·rw [if_neg h0,if_neg h0]
  congr 2
  unfold UU
  by_cases hk:k=1∨k=2
  ·rw [decide_eq_true hk,decide_eq_true (show (0:Int)≤k by omega),decide_eq_true (show k≤2 by omega)]; rfl
  ·rw [decide_eq_false hk]
   by_cases h1:(0:Int)≤k
   ·rw [decide_eq_false (show ¬ k≤2 by omega),Bool.and_false]
   ·rw [decide_eq_false h1,Bool.false_and]
abbrev zeIS:List Value:=((([]:List Value))++([Value.int .i64 0]++(([Value.bool false]++([Value.int .u64 0]++lPT ⟨0,0,false⟩))++([Value.slice none 0 0]++([Value.int .u64 0]++(Z32++(Cu.fws 0++(([]:List Value)))))))))
theorem Qw (w0:Base) (gr:Nat) (sl:Value) (b:Byt) (at_ e:Nat) (R:AA) (hat:at_≤b.length) (he:e≤200) (hl:b.length≤70368744177664) (hv:BytR (rdW w0.world) sl b) (w:World) (hw:St w0 w (RB gr sl at_ e R)) :
  AL 128 #[ptr gr] w (AQ w0 (Rfd He (H9 50 EE) gr sl b R at_ e)):=by
 have L0:([]:List Value).length=0:=rfl
 refine Sy.enterT (args:=[ptr gr]) hw Tryz.func128 J kL<|sC<|sM 145 zeIS.toArray (λg2=>?_)
 refine Sy.movT (pre:=[(gr,166,rrC sl at_ e)]) (T:=R)<|sA<|sM 145 ((([]:List Value))++([Value.int .i64 0]++(([Value.bool false]++([Value.int .u64 0]++lPT ⟨0,0,false⟩))++([Value.slice none 0 0]++([Value.int .u64 0]++(Z32++(Cu.fws 0++(([]:List Value))))))))).toArray (λg3=>?_)
 refine Sy.movT (pre:=[(gr,166,rrC sl at_ e),(g2,145,zeIS.toArray)]) (T:=R)<|sA<|sp J<|Sy.callT (λw hw=>CX 0 2 w0.inn gr sl b at_ e _ hat he hl hv w hw) (λu M hM=>?_)
 obtain ⟨x1,a1,e1,N1,p1,⟨rfl,rfl⟩,u1,v1_,rfl⟩:=hM
 refine Sy.permS (List.Perm.of_eq (congrArg (RB gr sl a1 e1) (List.append_nil _)))<|sP (pT g3 0)<|sw 2 J _ (wOa 3 (.int .i64 x1) 0 J kR kR kR J J L0) ?_
 have L1:(([]:List Value)++([Value.int .i64 x1])).length=1:=by rw [List.length_append,L0]; rfl
 have hr1:∀ z:Int,EE (rdB []) ((([]:List Value)++([Value.int .i64 z]))++(([Value.bool false]++([Value.int .u64 0]++lPT ⟨0,0,false⟩))++([Value.slice none 0 0]++([Value.int .u64 0]++(Z32++(Cu.fws 0++(([]:List Value)))))))) ⟨z,zAM,[],0,z32,0⟩:=λz=>⟨_,rfl,JR,BytR.nil _,(show (0:Nat)<18446744073709551616 by decide),rfl,(show 0<Cu.K4 by decide)⟩
 refine sG<|Sy.seq<|sC ?_
 by_cases h0:x1=0
 ·subst h0
  refine sP (pT g3 0)<|sS (.int .i64 0) (Quiet.cell 2 g3 0 145 3 ((([]:List Value)++([Value.int .i64 0]))++(([Value.bool false]++([Value.int .u64 0]++lPT ⟨0,0,false⟩))++([Value.slice none 0 0]++([Value.int .u64 0]++(Z32++(Cu.fws 0++(([]:List Value)))))))).toArray _ _ J kR J uy3 J _ J)<|sP (.bool true)<|sp J<|sN<|sN<|sN<|sP (.bool true)<|sG<|sT<|sC<|sS (.agg ((([]:List Value)++([Value.int .i64 0]))++(([Value.bool false]++([Value.int .u64 0]++lPT ⟨0,0,false⟩))++([Value.slice none 0 0]++([Value.int .u64 0]++(Z32++(Cu.fws 0++(([]:List Value)))))))).toArray) (Quiet.mid 2 g3 0 50 145 145 ((([]:List Value)++([Value.int .i64 0]))++(([Value.bool false]++([Value.int .u64 0]++lPT ⟨0,0,false⟩))++([Value.slice none 0 0]++([Value.int .u64 0]++(Z32++(Cu.fws 0++(([]:List Value)))))))) ((([]:List Value)++([Value.int .i64 0]))++(([Value.bool false]++([Value.int .u64 0]++lPT ⟨0,0,false⟩))++([Value.slice none 0 0]++([Value.int .u64 0]++(Z32++(Cu.fws 0++(([]:List Value)))))))) _ _ J kR J FW J kR (by rw [List.drop_zero,List.take_of_length_le (Nat.le_refl 50)]) (Nat.le_refl 50))<|sw 1 J ((([]:List Value)++([Value.int .i64 0]))++(([Value.bool false]++([Value.int .u64 0]++lPT ⟨0,0,false⟩))++([Value.slice none 0 0]++([Value.int .u64 0]++(Z32++(Cu.fws 0++(([]:List Value)))))))).toArray (Writes.row 145 ((([]:List Value)++([Value.int .i64 0]))++(([Value.bool false]++([Value.int .u64 0]++lPT ⟨0,0,false⟩))++([Value.slice none 0 0]++([Value.int .u64 0]++(Z32++(Cu.fws 0++(([]:List Value)))))))) 50 _ _ J kR kR kR J kZ (GF (hr1 0)))<|sG<|Sy.ret<|Sy.then_ret ?_
  exact Sy.retT1 (RB gr sl a1 e1 (R++[])) J (.inl (Sy.Res.cell (ty':=145) g2 1 ((([]:List Value)++([Value.int .i64 0]))++(([Value.bool false]++([Value.int .u64 0]++lPT ⟨0,0,false⟩))++([Value.slice none 0 0]++([Value.int .u64 0]++(Z32++(Cu.fws 0++(([]:List Value)))))))).toArray _ kZ J FW J kR J)) (λ_ h=>by rw [List.append_nil]; exact h.less (((List.Sublist.refl R).cons _ |>.cons _).cons_cons _)) ⟨⟨0,zAM,[],0,z32,0⟩,a1,e1,[],(by rw [← Li]; exact p1.bind (by rw [if_pos J]; exact After.ret _ _)),⟨((([]:List Value)++([Value.int .i64 0]))++(([Value.bool false]++([Value.int .u64 0]++lPT ⟨0,0,false⟩))++([Value.slice none 0 0]++([Value.int .u64 0]++(Z32++(Cu.fws 0++(([]:List Value)))))))),rfl,rfl,GF (hr1 0),hr1 0⟩,u1,v1_,rfl⟩
 obtain ⟨bk,hbk⟩:=xE (decide (e1=0))
 refine sP (pT g3 0)<|sS (.int .i64 x1) (Quiet.cell 2 g3 0 145 3 ((([]:List Value)++([Value.int .i64 x1]))++(([Value.bool false]++([Value.int .u64 0]++lPT ⟨0,0,false⟩))++([Value.slice none 0 0]++([Value.int .u64 0]++(Z32++(Cu.fws 0++(([]:List Value)))))))).toArray _ _ J kR J uy3 J _ J)<|sS (.bool false) (Quiet.pure (AE .eql _ _ _ .i64 _ _ _ J J J (Aa _ _ _ _ _ (decide_eq_false h0))))<|sp J<|sp J<|sS (.bool bk) (qg (λw hw=>by rw [hbk]; exact Dt w0.inn gr sl a1 e1 (List.mem_cons_self ..) w hw))<|sP (.bool (!bk))<|sP (.bool (!bk))<|sG ?_
 cases bk
 case' false =>
  refine sT<|sC<|sS (.agg ((([]:List Value)++([Value.int .i64 x1]))++(([Value.bool false]++([Value.int .u64 0]++lPT ⟨0,0,false⟩))++([Value.slice none 0 0]++([Value.int .u64 0]++(Z32++(Cu.fws 0++(([]:List Value)))))))).toArray) (Quiet.mid 2 g3 0 50 145 145 ((([]:List Value)++([Value.int .i64 x1]))++(([Value.bool false]++([Value.int .u64 0]++lPT ⟨0,0,false⟩))++([Value.slice none 0 0]++([Value.int .u64 0]++(Z32++(Cu.fws 0++(([]:List Value)))))))) ((([]:List Value)++([Value.int .i64 x1]))++(([Value.bool false]++([Value.int .u64 0]++lPT ⟨0,0,false⟩))++([Value.slice none 0 0]++([Value.int .u64 0]++(Z32++(Cu.fws 0++(([]:List Value)))))))) _ _ J kR J FW J kR (by rw [List.drop_zero,List.take_of_length_le (Nat.le_refl 50)]) (Nat.le_refl 50))<|sw 1 J ((([]:List Value)++([Value.int .i64 x1]))++(([Value.bool false]++([Value.int .u64 0]++lPT ⟨0,0,false⟩))++([Value.slice none 0 0]++([Value.int .u64 0]++(Z32++(Cu.fws 0++(([]:List Value)))))))).toArray (Writes.row 145 ((([]:List Value)++([Value.int .i64 x1]))++(([Value.bool false]++([Value.int .u64 0]++lPT ⟨0,0,false⟩))++([Value.slice none 0 0]++([Value.int .u64 0]++(Z32++(Cu.fws 0++(([]:List Value)))))))) 50 _ _ J kR kR kR J kZ (GF (hr1 x1)))<|sG<|Sy.ret<|Sy.then_ret ?_
  exact Sy.retT1 (RB gr sl a1 e1 (R++[])) J (.inl (Sy.Res.cell (ty':=145) g2 1 ((([]:List Value)++([Value.int .i64 x1]))++(([Value.bool false]++([Value.int .u64 0]++lPT ⟨0,0,false⟩))++([Value.slice none 0 0]++([Value.int .u64 0]++(Z32++(Cu.fws 0++(([]:List Value)))))))).toArray _ kZ J FW J kR J)) (λ_ h=>by rw [List.append_nil]; exact h.less (((List.Sublist.refl R).cons _ |>.cons _).cons_cons _)) ⟨⟨x1,zAM,[],0,z32,0⟩,a1,e1,[],(by rw [← Li]; exact p1.bind (After.off _ (of_decide_eq_false hbk.symm))),⟨((([]:List Value)++([Value.int .i64 x1]))++(([Value.bool false]++([Value.int .u64 0]++lPT ⟨0,0,false⟩))++([Value.slice none 0 0]++([Value.int .u64 0]++(Z32++(Cu.fws 0++(([]:List Value)))))))),rfl,rfl,GF (hr1 x1),hr1 x1⟩,u1,v1_,rfl⟩
 refine sU<|Sy.skip<|Sy.then_<|sC<|sp J<|Sy.callT (λw hw=>Hc w0.inn gr sl b a1 e1 ((g2,145,zeIS.toArray)::(g3,145,((([]:List Value)++([Value.int .i64 x1]))++(([Value.bool false]++([Value.int .u64 0]++lPT ⟨0,0,false⟩))++([Value.slice none 0 0]++([Value.int .u64 0]++(Z32++(Cu.fws 0++(([]:List Value)))))))).toArray)::R) u1 v1_ hl hv w hw) (λu M hM=>?_)
 obtain ⟨x2,a2,e2,N2,p2,⟨cs2,rfl,n2,o2,rfl,b2⟩,u2,v2_,rfl⟩:=hM
 refine Sy.permS (M:=RB gr sl a2 e2 ((g2,145,zeIS.toArray)::(g3,145,((([]:List Value)++([Value.int .i64 x1]))++(([Value.bool false]++([Value.int .u64 0]++lPT ⟨0,0,false⟩))++([Value.slice none 0 0]++([Value.int .u64 0]++(Z32++(Cu.fws 0++(([]:List Value)))))))).toArray)::(R++N2))) (List.Perm.of_eq (by simp only [List.cons_append,List.append_assoc]))<|sP (pT g3 1)<|sw 2 J _ (wMa 61 (cAM x2) 11 1 J kR kR kR L1 J n2 o2) ?_
 have L2:(([]:List Value)++([Value.int .i64 x1])++(cAM x2)).length=12:=by rw [List.length_append,L1,n2]
 refine sA<|sp J<|Sy.callT (λw hw=>CK 6000 dZ w0.inn gr sl b a2 e2 ((g2,145,zeIS.toArray)::(g3,145,((([]:List Value)++([Value.int .i64 x1])++(cAM x2))++([Value.slice none 0 0]++([Value.int .u64 0]++(Z32++(Cu.fws 0++(([]:List Value))))))).toArray)::(R++N2)) u2 v2_ hl hv w hw) (λc3 M hM=>?_)
 obtain ⟨x3,a3,e3,N3,p3,r3,u3,v3_,rfl⟩:=hM
 refine Sy.permS (M:=RB gr sl a3 e3 ((g2,145,zeIS.toArray)::(g3,145,((([]:List Value)++([Value.int .i64 x1])++(cAM x2))++([Value.slice none 0 0]++([Value.int .u64 0]++(Z32++(Cu.fws 0++(([]:List Value))))))).toArray)::((R++N2)++N3))) (List.Perm.of_eq (by simp only [List.cons_append,List.append_assoc])) ?_
 have hc3:=r3.byt.cells
 refine sP (pT g3 12)<|sw 2 J _ (wOa 27 c3 12 J kR kR kR hc3.1 hc3.2 L2) ?_
 have L3:(([]:List Value)++([Value.int .i64 x1])++(cAM x2)++([c3])).length=13:=by rw [List.length_append,L2]; rfl
 refine sA<|sp J<|Sy.callT (λw hw=>Eu w0.inn gr sl b a3 e3 8 _ u3 v3_ dZ hl hv w hw) (λu M hM=>?_)
 obtain ⟨x4,a4,e4,N4,p4,⟨rfl,r4,rfl⟩,u4,v4_,rfl⟩:=hM
 refine Sy.permS (List.Perm.of_eq (congrArg (RB gr sl a4 e4) (List.append_nil _)))<|sP (pT g3 13)<|sw 2 J _ (wOa 22 (uZ (x4:Int)) 13 J kR kR kR J J L3) ?_
 have L4:(([]:List Value)++([Value.int .i64 x1])++(cAM x2)++([c3])++([Value.int .u64 (x4:Int)])).length=14:=by rw [List.length_append,L3]; rfl
 refine sA<|sp J<|Sy.callT (λw hw=>Ca w0.inn gr sl b a4 e4 _ u4 v4_ hl hv w hw) (λu M hM=>?_)
 obtain ⟨x5,a5,e5,N5,p5,⟨rfl,r5,rfl⟩,u5,v5_,rfl⟩:=hM
 refine Sy.permS (List.Perm.of_eq (congrArg (RB gr sl a5 e5) (List.append_nil _))) ?_
 have n5:(x5.map bv).length=32:=by rw [List.length_map,r5]
 refine sP (pT g3 14)<|sw 2 J _ (wMa 37 (x5.map bv) 32 14 J kR kR kR L4 Cn n5 (Bv x5)) ?_
 have L5:(([]:List Value)++([Value.int .i64 x1])++(cAM x2)++([c3])++([Value.int .u64 (x4:Int)])++(x5.map bv)).length=46:=by rw [List.length_append,L4,n5]
 refine sA<|sp J<|Sy.callT (λw hw=>Dk w0.inn gr sl b a5 e5 32 ((g2,145,zeIS.toArray)::(g3,145,((([]:List Value)++([Value.int .i64 x1])++(cAM x2)++([c3])++([Value.int .u64 (x4:Int)])++(x5.map bv))++(Cu.fws 0++(([]:List Value)))).toArray)::((R++N2)++N3)) u5 v5_ dZ hl hv w hw) (λu M hM=>?_)
 obtain ⟨x6,a6,e6,N6,p6,⟨w1,w2⟩,u6,v6_,rfl⟩:=hM
 refine Sy.permS (M:=RB gr sl a6 e6 ((g2,145,zeIS.toArray)::(g3,145,((([]:List Value)++([Value.int .i64 x1])++(cAM x2)++([c3])++([Value.int .u64 (x4:Int)])++(x5.map bv))++(Cu.fws 0++(([]:List Value)))).toArray)::(((R++N2)++N3)++N6))) (List.Perm.of_eq (by simp only [List.cons_append,List.append_assoc])) ?_
 obtain ⟨A7,n7,c7,rfl,m1,m2,m3,m4⟩:=w1.byt
 obtain rfl:n7=32:=om
 obtain ⟨gs,os,rfl,hq⟩:=m4 (by intro e; rw [e] at w2; cases w2)
 obtain ⟨m,hm⟩:=xE ((Sc.readS x6).1)
 obtain ⟨ok,hok⟩:=xE ((Sc.readS x6).2)
 have hmK:m<Cu.K4:=by
  rw [hm]
  unfold Sc.readS
  split
  ·exact Bl x6 w2
  ·show 0<Cu.K4; decide
 refine sS (.tuple #[fv m,.bool ok]) (qg (λw' hw=>by
  have hf:=CA hw (R:=N6) (λy hy=>by simp [hy])
  rw [hm,hok]
  exact Cu.rdR_off w' gs os c7 x6 w2 (hf _ _ _ (hq 0 _ (List.getElem?_eq_getElem om))).1 (λj u hj=>(hf _ _ _ (hq j u hj)).2) om (by simp only [maxLen] at m3; omega)))<|sp J<|sp J<|sp J ?_
 refine sM 143 (Cu.fws 0).toArray (λg4=>?_)
 refine Sy.permS (M:=RB gr sl a6 e6 ((g4,143,(Cu.fws 0).toArray)::(g2,145,zeIS.toArray)::(g3,145,((([]:List Value)++([Value.int .i64 x1])++(cAM x2)++([c3])++([Value.int .u64 (x4:Int)])++(x5.map bv))++(Cu.fws 0++(([]:List Value)))).toArray)::(((R++N2)++N3)++N6))) (List.Perm.cons _ (List.perm_append_comm (l₁:=(g2,145,zeIS.toArray)::(g3,145,((([]:List Value)++([Value.int .i64 x1])++(cAM x2)++([c3])++([Value.int .u64 (x4:Int)])++(x5.map bv))++(Cu.fws 0++(([]:List Value)))).toArray)::(((R++N2)++N3)++N6)) (l₂:=[_])))<|sw 1 J (Cu.fws m).toArray (Writes.row 143 (Cu.fws m) 4 _ _ J kR kR kR J kZ (GO m))<|sp J ?_
 obtain ⟨e7,he7⟩:=xE (if ok=true then e6 else if e6=0 then 120 else e6)
 have pS:After OT ⟨b.drop a5,e5⟩ m ⟨b.drop a6,e7⟩:=p6.bind (by
  rw [← hm, ← hok]
  cases ok
  ·exact After.mustN m (by show e7≠0; rw [he7,if_neg dZ]; split <;> omega)
  ·rw [he7,if_pos J]
   exact After.ret m _)
 have v7_:e7≤200:=by rw [he7]; split; exact v6_; split <;> omega
 refine sG<|Sy.seq<|DN [(0,ptr gr),(2,ptr g2),(3,ptr g3),(4,ptr g4)] (RB gr sl a6 e7 ((g4,143,(Cu.fws m).toArray)::(g2,145,zeIS.toArray)::(g3,145,((([]:List Value)++([Value.int .i64 x1])++(cAM x2)++([c3])++([Value.int .u64 (x4:Int)])++(x5.map bv))++(Cu.fws 0++(([]:List Value)))).toArray)::(((R++N2)++N3)++N6))) ?_ ?_
 ·refine sC ?_
  refine sp J<|sP (.bool (!ok))<|sG ?_
  cases ok
  ·refine sT<|Sy.region ?_
   refine sp J<|Sy.callT (λw hw=>FJ w0.inn gr sl a6 e6 ((g4,143,(Cu.fws m).toArray)::(g2,145,zeIS.toArray)::(g3,145,((([]:List Value)++([Value.int .i64 x1])++(cAM x2)++([c3])++([Value.int .u64 (x4:Int)])++(x5.map bv))++(Cu.fws 0++(([]:List Value)))).toArray)::(((R++N2)++N3)++N6)) w hw) (λu M hM=>?_)
   subst hM
   refine Sy.nil ?_
   have e9:e7=if e6=0 then 120 else e6:=by rw [he7,if_neg dZ]
   rw [e9]
   exact A_ ac4 (λ_ h=>h)
  ·refine sU<|Sy.skip ?_
   have e9:e7=e6:=by rw [he7,if_pos J]
   rw [e9]
   exact A_ ac4 (λ_ h=>h)
 refine sB<|sS (.agg (Cu.fws m).toArray) (Quiet.mid 1 g4 0 4 143 143 (Cu.fws m) (Cu.fws m) _ _ J kR J Be J kR J (Nat.le_refl 4))<|sP (pT g3 46)<|sw 3 J ((([]:List Value)++([Value.int .i64 x1])++(cAM x2)++([c3])++([Value.int .u64 (x4:Int)])++(x5.map bv)++(Cu.fws m))++([]:List Value)).toArray (by rw [show ((([]:List Value)++([Value.int .i64 x1])++(cAM x2)++([c3])++([Value.int .u64 (x4:Int)])++(x5.map bv)++(Cu.fws m))++([]:List Value))=(([]:List Value)++([Value.int .i64 x1])++(cAM x2)++([c3])++([Value.int .u64 (x4:Int)])++(x5.map bv))++(Cu.fws m++(([]:List Value))) from List.append_assoc ..]; exact wM 143 ((([]:List Value)++([Value.int .i64 x1])++(cAM x2)++([c3])++([Value.int .u64 (x4:Int)])++(x5.map bv))) (Cu.fws 0) (Cu.fws m) (([]:List Value)) 4 46 _ _ J kR kR kR L5 J J (GO m)) ?_
 have L6:(([]:List Value)++([Value.int .i64 x1])++(cAM x2)++([c3])++([Value.int .u64 (x4:Int)])++(x5.map bv)++(Cu.fws m)).length=50:=by rw [List.length_append,L5]; rfl
 have hAf:After He ⟨b.drop at_,e⟩ ⟨x1,x2,x3,x4,x5,m⟩ ⟨b.drop a6,e7⟩:=by rw [← Li]; exact p1.bind (by rw [if_neg h0]; exact p2.bind (p3.bind (p4.bind (p5.bind (pS.bind (After.ret _ _))))))
 have hrp:EE (rdB (N2++(N3++N6))) ((([]:List Value)++([Value.int .i64 x1])++(cAM x2)++([c3])++([Value.int .u64 (x4:Int)])++(x5.map bv)++(Cu.fws m))++([]:List Value)) ⟨x1,x2,x3,x4,x5,m⟩:=⟨c3,by simp only [cIS,List.append_assoc,List.append_nil,List.nil_append],b2,r3.byt.le (AV λb h=>by simp [h]),r4,r5,hmK⟩
 have hln:((([]:List Value)++([Value.int .i64 x1])++(cAM x2)++([c3])++([Value.int .u64 (x4:Int)])++(x5.map bv)++(Cu.fws m))++([]:List Value)).length=50:=by rw [List.length_append,L6]; rfl
 have hon:∀ u∈((([]:List Value)++([Value.int .i64 x1])++(cAM x2)++([c3])++([Value.int .u64 (x4:Int)])++(x5.map bv)++(Cu.fws m))++([]:List Value)),u.oneCell'=true:=GF hrp
 refine sA<|sS (.agg ((([]:List Value)++([Value.int .i64 x1])++(cAM x2)++([c3])++([Value.int .u64 (x4:Int)])++(x5.map bv)++(Cu.fws m))++([]:List Value)).toArray) (Quiet.mid 3 g3 0 50 145 145 ((([]:List Value)++([Value.int .i64 x1])++(cAM x2)++([c3])++([Value.int .u64 (x4:Int)])++(x5.map bv)++(Cu.fws m))++([]:List Value)) ((([]:List Value)++([Value.int .i64 x1])++(cAM x2)++([c3])++([Value.int .u64 (x4:Int)])++(x5.map bv)++(Cu.fws m))++([]:List Value)) _ _ J kR J FW J kR (by rw [List.drop_zero,List.take_of_length_le om]) om)<|sw 2 J ((([]:List Value)++([Value.int .i64 x1])++(cAM x2)++([c3])++([Value.int .u64 (x4:Int)])++(x5.map bv)++(Cu.fws m))++([]:List Value)).toArray (Writes.row 145 ((([]:List Value)++([Value.int .i64 x1])++(cAM x2)++([c3])++([Value.int .u64 (x4:Int)])++(x5.map bv)++(Cu.fws m))++([]:List Value)) 50 _ _ J kR kR kR hln kZ hon)<|sG<|Sy.ret ?_
 exact Sy.retT1 (RB gr sl a6 e7 (R++(N2++(N3++N6)))) J (.inl (Sy.Res.cell (ty':=145) g2 2 ((([]:List Value)++([Value.int .i64 x1])++(cAM x2)++([c3])++([Value.int .u64 (x4:Int)])++(x5.map bv)++(Cu.fws m))++([]:List Value)).toArray _ kZ J FW J (by rw [List.size_toArray,hln]; kernel_rfl) rfl)) (λ_ h=>Sy.St.parts (ls:=[[(gr,166,rrC sl a6 e7)],[(g4,143,(Cu.fws m).toArray)],[(g2,145,((([]:List Value)++([Value.int .i64 x1])++(cAM x2)++([c3])++([Value.int .u64 (x4:Int)])++(x5.map bv)++(Cu.fws m))++([]:List Value)).toArray)],[(g3,145,((([]:List Value)++([Value.int .i64 x1])++(cAM x2)++([c3])++([Value.int .u64 (x4:Int)])++(x5.map bv)++(Cu.fws m))++([]:List Value)).toArray)],R,N2,N3,N6]) (ms:=[[(gr,166,rrC sl a6 e7)],R,N2,N3,N6]) [[(g4,143,(Cu.fws m).toArray)],[(g2,145,((([]:List Value)++([Value.int .i64 x1])++(cAM x2)++([c3])++([Value.int .u64 (x4:Int)])++(x5.map bv)++(Cu.fws m))++([]:List Value)).toArray)],[(g3,145,((([]:List Value)++([Value.int .i64 x1])++(cAM x2)++([c3])++([Value.int .u64 (x4:Int)])++(x5.map bv)++(Cu.fws m))++([]:List Value)).toArray)]] [0,4,5,6,7,1,2,3] kZ (by rfl) (by simp) (by simp) h) ⟨_,a6,e7,N2++(N3++N6),hAf,⟨((([]:List Value)++([Value.int .i64 x1])++(cAM x2)++([c3])++([Value.int .u64 (x4:Int)])++(x5.map bv)++(Cu.fws m))++([]:List Value)),rfl,hln,hon,hrp⟩,u6,v7_,rfl⟩
end Wr
end
end Go.Proofs.YtdbcombmmnihbaaGreat
