/-
  Texts of ours, put together: WirGI, WirGG, WirGH, WirGR.
-/
import Derived.Test.YtdbcombmmnihbaaGreatWN6
set_option linter.unusedVariables false
set_option linter.unusedSimpArgs false
namespace Go.Proofs.YtdbcombmmnihbaaGreat
section
namespace Wr
open Go.RowKit Sy
set_option maxRecDepth 100000
set_option maxHeartbeats 4000000
theorem okO_of2 {z:Int} (h:okK2 z=true):okO z=true:=by
 unfold okK2 at h; unfold okO
 rw [Bool.and_eq_true,decide_eq_true_eq,decide_eq_true_eq] at h ⊢
 omega
theorem in_w:PutO 61 122 repIN okIN encIN wtIN:=λw0 gc gw gx f bad s R b cs x hx _ hc hb hl w hw=>by
 obtain ⟨z,pt,ix,iss,pg,wi⟩:=x
 obtain ⟨ci,cg,vw,rfl,h1,h2,h3,h4,h5⟩:=hx
 dsimp only at h1 h2 h3 h4 h5
 unfold wtIN at hl
 dsimp only at hl
 have m1:(pt.map bv++[Value.int .u32 (ix:Int)]).length=33:=by rw [List.length_append,List.length_map,h1]; rfl
 have m3:=lenIS h3
 have m4:=lenPG h4
 have c0:OwnAt R gx f ([.int .i64 z]++((pt.map bv++[.int .u32 (ix:Int)])++(ci++(cg++[vw])))):=hc
 have c1:OwnAt R gx (f+1) ((pt.map bv++[.int .u32 (ix:Int)])++(ci++(cg++[vw]))):=c0.right (n:=1) rfl
 have c2:OwnAt R gx (f+34) (ci++(cg++[vw])):=by have q:=c1.right m1; rwa [Nat.add_assoc] at q
 have c4:OwnAt R gx (f+84) (cg++[vw]):=by have q:=c2.right m3; rwa [Nat.add_assoc] at q
 have c5:OwnAt R gx (f+121) [vw]:=by have q:=c4.right m4; rwa [Nat.add_assoc] at q
 have X0:rdC w0.inn R gx f (.int .i64 z):=(c0.at w0.inn).one
 refine Sy.enterT (args:=[ptr gc,.pointer (some ⟨gx,f,none⟩)]) hw Tryz.func61 rfl kL ?_
 refine sC ?_
 refine sp rfl<|sp rfl<|sp rfl<|sP (.pointer (some ⟨gx,f,none⟩)) ?_
 refine Sy.callT (λw hw=>octet_w w0.inn gc gw gx f bad s R b z X0 hb (by omega) w hw) (λu M hM=>?_)
 obtain ⟨s1,bad1,b1,q1,p1,rfl⟩:=hM
 have l1:b1.length≤b.length+1:=q1.len
 refine sA ?_
 refine sp rfl<|sp rfl<|sp rfl<|sP (.pointer (some ⟨gx,f+1,none⟩)) ?_
 refine Sy.callT (λw hw=>outpoint_w w0.inn gc gw gx (f+1) bad1 s1 R b1 _ (pt,ix) ⟨rfl,h1,h2⟩ m1 (c1.left.at w0.inn) p1 (by show _+36≤_; omega) w hw) (λu M hM=>?_)
 obtain ⟨s2,bad2,b2,q2,p2,rfl⟩:=hM
 have l2:b2.length≤b1.length+36:=q2.len
 refine sA ?_
 refine sp rfl<|sp rfl<|sp rfl<|sP (.pointer (some ⟨gx,f+34,none⟩)) ?_
 refine Sy.callT (λw hw=>issue_w w0.inn gc gw gx (f+34) bad2 s2 R b2 ci iss h3 m3 c2.left p2 (by omega) w hw) (λu M hM=>?_)
 obtain ⟨s3,bad3,b3,q3,p3,rfl⟩:=hM
 have l3:b3.length≤b2.length+wtIS iss:=q3.len
 refine sG<|Sy.seq<|sC ?_
 refine sp rfl<|sp rfl<|sP (.pointer (some ⟨gx,f,none⟩))<|sS (.int .i64 z) (cellC (R:=R) X0 inCW rfl Tryz.underlying3) ?_
 refine sG<|Sy.block<|sC ?_
 have fine:∀ (okP:Bool) (eP:Byt) (bad4 bad5:Bool) (b4 b5:Byt),okK2 z=true→okIN ⟨z,pt,ix,iss,pg,wi⟩=(okIS iss && (okP && okW wi))→encIN ⟨z,pt,ix,iss,pg,wi⟩=[octB z]++(pt++(nb 4 ix++(encIS iss++(eP++encL encT wi))))→Wrote okP eP (wtPG pg) bad3 b3 bad4 b4→Wrote (okW wi) (encL encT wi) (9+(wi.map wtT).sum) bad4 b4 bad5 b5→Wrote (okIN ⟨z,pt,ix,iss,pg,wi⟩) (encIN ⟨z,pt,ix,iss,pg,wi⟩) (wtIN ⟨z,pt,ix,iss,pg,wi⟩) bad b bad5 b5:=λokP eP bad4 bad5 b4 b5 hk e1 e2 g4 g5=>by
  have q:=q1.then_ (q2.then_ (q3.then_ (g4.then_ g5)))
  rw [okO_of2 hk,Bool.true_and,Bool.true_and] at q
  rw [e1,e2]
  unfold encOP at q
  simp only [List.append_assoc] at q ⊢
  exact q
 by_cases hk1:z=1
 ·subst hk1
  obtain ⟨vt,vp,vs,rfl,d1,⟨A1,n1,k1,rfl,e1,_⟩,d3,d4,⟨A2,n2,k2,rfl,e2,_⟩,⟨A3,n3,k3,rfl,e3,_⟩⟩:=h4
  obtain ⟨ok,hok⟩:∃ ok,ok=nulPG pg:=⟨_,rfl⟩
  refine sP (.bool true)<|sp rfl ?_
  refine sG<|sT<|Sy.region ?_
  refine sp rfl<|sp rfl<|sp rfl<|sP (.pointer (some ⟨gx,f+84,none⟩))<|sS (.agg (cPG pg (.slice A1 n1 k1) (.slice A2 n2 k2) (.slice A3 n3 k3)).toArray) (rowC (R:=R) (cs:=cPG pg (.slice A1 n1 k1) (.slice A2 n2 k2) (.slice A3 n3 k3)) (c4.left.at w0.inn) inCW m4 rfl Tryz.underlying148)<|sS (.bool ok) (qg (λw _=>by rw [hok]; exact noPeg_any w pg A1 A2 A3 n1 k1 n2 k2 n3 k3 e1 e2 e3 d1)) ?_
  refine Sy.callT (λw hw=>must_w w0.inn gc gw bad3 ok s3 R w hw) (λu M hM=>?_)
  subst hM
  refine Sy.nil<|Sy.in_<|Sy.then_<|Sy.region ?_
  refine sp rfl<|sp rfl<|sp rfl<|sP (.pointer (some ⟨gx,f+121,none⟩)) ?_
  refine Sy.callT (λw hw=>list_w_wit (rep:=repY) one_y monoTT witness_w w0.inn gc gw gx (f+121) 16 (by decide) (bad3 || !ok) s3 R b3 vw wi h5 (c5.at w0.inn).one p3 (by omega) w hw) (λu M hM=>?_)
  obtain ⟨s5,bad5,b5,q5,p5,rfl⟩:=hM
  refine Sy.nil ?_
  exact Sy.retT0 rfl (CWS gc gw bad5 s5 R) (λ_ h=>h) (λ_=>⟨s5,bad5,b5,fine ok [] (bad3 || !ok) bad5 b3 b5 rfl (by rw [hok]; rfl) (by unfold encIN; rfl) ((Wrote.must ok bad3 b3).le (Nat.zero_le _)) q5,p5,rfl⟩)
 refine sS (.bool false) (Quiet.pure (exec_int .eql _ _ _ .i64 _ _ _ rfl rfl rfl (int_eql _ _ _ _ _ (decide_eq_false hk1))))<|sp rfl ?_
 refine sG<|sU<|sC ?_
 by_cases hk2:z=2
 ·subst hk2
  refine sP (.bool true)<|sp rfl ?_
  refine sG<|sT<|Sy.region ?_
  refine sp rfl<|sp rfl<|sp rfl<|sP (.pointer (some ⟨gx,f+84,none⟩)) ?_
  refine Sy.callT (λw hw=>peg_w w0.inn gc gw gx (f+84) bad3 s3 R b3 cg pg h4 m4 (c4.left.at w0.inn) p3 (by omega) w hw) (λu M hM=>?_)
  obtain ⟨s4,bad4,b4,q4,p4,rfl⟩:=hM
  have l4:b4.length≤b3.length+wtPG pg:=q4.len
  refine Sy.nil<|Sy.in_<|Sy.then_<|Sy.region ?_
  refine sp rfl<|sp rfl<|sp rfl<|sP (.pointer (some ⟨gx,f+121,none⟩)) ?_
  refine Sy.callT (λw hw=>list_w_wit (rep:=repY) one_y monoTT witness_w w0.inn gc gw gx (f+121) 16 (by decide) bad4 s4 R b4 vw wi h5 (c5.at w0.inn).one p4 (by omega) w hw) (λu M hM=>?_)
  obtain ⟨s5,bad5,b5,q5,p5,rfl⟩:=hM
  refine Sy.nil ?_
  exact Sy.retT0 rfl (CWS gc gw bad5 s5 R) (λ_ h=>h) (λ_=>⟨s5,bad5,b5,fine (okPG pg) (encPG pg) bad4 bad5 b4 b5 rfl rfl (by unfold encIN; rfl) q4 q5,p5,rfl⟩)
 have hno:okIN ⟨z,pt,ix,iss,pg,wi⟩=false:=by
  unfold okIN
  dsimp only
  rw [okK2_of (λh=>h.elim hk1 hk2)]; rfl
 refine sS (.bool false) (Quiet.pure (exec_int .eql _ _ _ .i64 _ _ _ rfl rfl rfl (int_eql _ _ _ _ _ (decide_eq_false hk2))))<|sp rfl ?_
 refine sG<|sU<|Sy.region ?_
 refine sp rfl ?_
 refine Sy.callT (λw hw=>must_w w0.inn gc gw bad3 false s3 R w hw) (λu M hM=>?_)
 subst hM
 refine Sy.nil<|Sy.in_<|Sy.then_<|Sy.region ?_
 refine sp rfl<|sp rfl<|sp rfl<|sP (.pointer (some ⟨gx,f+121,none⟩)) ?_
 refine Sy.callT (λw hw=>list_w_wit (rep:=repY) one_y monoTT witness_w w0.inn gc gw gx (f+121) 16 (by decide) (bad3 || !false) s3 R b3 vw wi h5 (c5.at w0.inn).one p3 (by omega) w hw) (λu M hM=>?_)
 obtain ⟨s5,bad5,b5,q5,p5,rfl⟩:=hM
 refine Sy.nil ?_
 have qb:=q5.bad
 have ql:=q5.len
 have hbt:bad5=true:=by rw [qb]; cases bad3 <;> rfl
 exact Sy.retT0 rfl (CWS gc gw bad5 s5 R) (λ_ h=>h) (λ_=>⟨s5,bad5,b5,⟨by rw [hno,hbt]; cases bad <;> rfl,λh=>(by rw [hbt] at h; cases h),by unfold wtIN; dsimp only; omega⟩,p5,rfl⟩)
theorem mid_size {A v Z:List Value} {f k:Nat} (hA:A.length=f) (hv:v.length=k):f+k≤(A++(v++Z)).length:=by rw [List.length_append,List.length_append,hA,hv]; omega
theorem nul_zPG:nulPG zPG=true:=by decide
theorem zPG_rep (C:Rdr):repPG C (Z32++([Value.slice none 0 0]++([Value.int .u32 0]++([Value.int .u32 0]++([Value.slice none 0 0]++([Value.slice none 0 0])))))) zPG:=⟨_,_,_,rfl,rfl,BytR.nil _,(show (0:Nat)<4294967296 by decide),(show (0:Nat)<4294967296 by decide),⟨none,0,0,rfl,rfl,Nat.le_refl _,Nat.zero_le _,λh=>(h rfl).elim⟩,BytR.nil _⟩
theorem in_r:GetC 61 122 ([Value.int .i64 0]++((Z32++([Value.int .u32 0]))++(([Value.int .i64 0]++(([Value.bool false]++([Value.int .u64 0]++lPT ⟨0,0,false⟩))++([Value.slice none 0 0]++([Value.int .u64 0]++(Z32++(Cu.fws 0))))))++((Z32++([Value.slice none 0 0]++([Value.int .u32 0]++([Value.int .u32 0]++([Value.slice none 0 0]++([Value.slice none 0 0]))))))++([Value.slice none 0 0]))))) repIN rdIN:=λw0 gc gr gx f tx A Z sl s R S hS hA he hl hv w hw=>by
 refine Sy.enterT (args:=[ptr gc,.pointer (some ⟨gx,f,none⟩)]) hw Tryz.func61 rfl kL ?_
 refine sC ?_
 refine sp rfl<|sp rfl<|sp rfl<|sP (.pointer (some ⟨gx,f,none⟩)) ?_
 refine Sy.callT (λw hw=>octet_r w0.inn gc gr gx f tx (A) ((Z32++([Value.int .u32 0]))++(([Value.int .i64 0]++(([Value.bool false]++([Value.int .u64 0]++lPT ⟨0,0,false⟩))++([Value.slice none 0 0]++([Value.int .u64 0]++(Z32++(Cu.fws 0))))))++((Z32++([Value.slice none 0 0]++([Value.int .u32 0]++([Value.int .u32 0]++([Value.slice none 0 0]++([Value.slice none 0 0]))))))++([Value.slice none 0 0]++Z)))) sl s (R) S hS hA he (hl) hv w (by simpa only [List.append_assoc] using hw)) (λu M hM=>?_)
 obtain ⟨x1,s1,sl1,cs1,N1,a1,n1,o1,rfl,e1,h1,y1,rfl⟩:=hM
 have g1:s1.rest.length≤s.rest.length:=h1
 have A1:(A++[Value.int .i64 x1]).length=f+1:=by rw [List.length_append,hA,n1]
 refine sA ?_
 refine sp rfl<|sp rfl<|sp rfl<|sP (.pointer (some ⟨gx,f+1,none⟩)) ?_
 refine Sy.callT (λw hw=>outpoint_r w0.inn gc gr gx (f+1) tx (A++[Value.int .i64 x1]) (([Value.int .i64 0]++(([Value.bool false]++([Value.int .u64 0]++lPT ⟨0,0,false⟩))++([Value.slice none 0 0]++([Value.int .u64 0]++(Z32++(Cu.fws 0))))))++((Z32++([Value.slice none 0 0]++([Value.int .u32 0]++([Value.int .u32 0]++([Value.slice none 0 0]++([Value.slice none 0 0]))))))++([Value.slice none 0 0]++Z))) sl1 s1 (R++N1) S (λb h=>List.mem_append_left _ (hS b h)) A1 e1 (Nat.le_trans g1 hl) y1 w (by have e:A++[Value.int .i64 x1]++((Z32++([Value.int .u32 0]))++(([Value.int .i64 0]++(([Value.bool false]++([Value.int .u64 0]++lPT ⟨0,0,false⟩))++([Value.slice none 0 0]++([Value.int .u64 0]++(Z32++(Cu.fws 0))))))++((Z32++([Value.slice none 0 0]++([Value.int .u32 0]++([Value.int .u32 0]++([Value.slice none 0 0]++([Value.slice none 0 0]))))))++([Value.slice none 0 0]++Z))))=A++([Value.int .i64 x1]++((Z32++([Value.int .u32 0]))++(([Value.int .i64 0]++(([Value.bool false]++([Value.int .u64 0]++lPT ⟨0,0,false⟩))++([Value.slice none 0 0]++([Value.int .u64 0]++(Z32++(Cu.fws 0))))))++((Z32++([Value.slice none 0 0]++([Value.int .u32 0]++([Value.int .u32 0]++([Value.slice none 0 0]++([Value.slice none 0 0]))))))++([Value.slice none 0 0]++Z))))):=List.append_assoc ..; rw [e]; exact hw)) (λu M hM=>?_)
 obtain ⟨x2,s2,sl2,cs2,N2,a2,n2,o2,⟨rfl,r2a,r2b⟩,e2,h2,y2,rfl⟩:=hM
 have g2:s2.rest.length≤s.rest.length:=Nat.le_trans h2 g1
 have A2:(A++[Value.int .i64 x1]++(x2.1.map bv++[Value.int .u32 (x2.2:Int)])).length=f+34:=by rw [List.length_append,A1,n2]
 refine sA ?_
 refine sp rfl<|sp rfl<|sp rfl<|sP (.pointer (some ⟨gx,f+34,none⟩)) ?_
 refine Sy.callT (λw hw=>issue_r w0.inn gc gr gx (f+34) tx (A++[Value.int .i64 x1]++(x2.1.map bv++[Value.int .u32 (x2.2:Int)])) ((Z32++([Value.slice none 0 0]++([Value.int .u32 0]++([Value.int .u32 0]++([Value.slice none 0 0]++([Value.slice none 0 0]))))))++([Value.slice none 0 0]++Z)) sl2 s2 (R++N1++N2) S (λb h=>List.mem_append_left _ (List.mem_append_left _ (hS b h))) A2 e2 (Nat.le_trans g2 hl) y2 w (by have e:A++[Value.int .i64 x1]++(x2.1.map bv++[Value.int .u32 (x2.2:Int)])++(([Value.int .i64 0]++(([Value.bool false]++([Value.int .u64 0]++lPT ⟨0,0,false⟩))++([Value.slice none 0 0]++([Value.int .u64 0]++(Z32++(Cu.fws 0))))))++((Z32++([Value.slice none 0 0]++([Value.int .u32 0]++([Value.int .u32 0]++([Value.slice none 0 0]++([Value.slice none 0 0]))))))++([Value.slice none 0 0]++Z)))=A++[Value.int .i64 x1]++(x2.1.map bv++[Value.int .u32 (x2.2:Int)]++(([Value.int .i64 0]++(([Value.bool false]++([Value.int .u64 0]++lPT ⟨0,0,false⟩))++([Value.slice none 0 0]++([Value.int .u64 0]++(Z32++(Cu.fws 0))))))++((Z32++([Value.slice none 0 0]++([Value.int .u32 0]++([Value.int .u32 0]++([Value.slice none 0 0]++([Value.slice none 0 0]))))))++([Value.slice none 0 0]++Z)))):=List.append_assoc ..; rw [e]; exact hw)) (λu M hM=>?_)
 obtain ⟨x3,s3,sl3,cs3,N3,a3,n3,o3,r3,e3,h3,y3,rfl⟩:=hM
 have g3:s3.rest.length≤s.rest.length:=Nat.le_trans h3 g2
 have A3:(A++[Value.int .i64 x1]++(x2.1.map bv++[Value.int .u32 (x2.2:Int)])++(cs3)).length=f+84:=by rw [List.length_append,A2,n3]
 refine Sy.permS (M:=CRS gc gr gx tx (A++[Value.int .i64 x1]++(x2.1.map bv++[Value.int .u32 (x2.2:Int)])++(cs3)++((Z32++([Value.slice none 0 0]++([Value.int .u32 0]++([Value.int .u32 0]++([Value.slice none 0 0]++([Value.slice none 0 0]))))))++([Value.slice none 0 0]++Z))) sl3 s3.e (R++N1++N2++N3)) (List.Perm.of_eq (congrArg (λz=>CRS gc gr gx tx z sl3 s3.e (R++N1++N2++N3)) (show (A++[Value.int .i64 x1]++(x2.1.map bv++[Value.int .u32 (x2.2:Int)])++(cs3++((Z32++([Value.slice none 0 0]++([Value.int .u32 0]++([Value.int .u32 0]++([Value.slice none 0 0]++([Value.slice none 0 0]))))))++([Value.slice none 0 0]++Z))))=(A++[Value.int .i64 x1]++(x2.1.map bv++[Value.int .u32 (x2.2:Int)])++(cs3)++((Z32++([Value.slice none 0 0]++([Value.int .u32 0]++([Value.int .u32 0]++([Value.slice none 0 0]++([Value.slice none 0 0]))))))++([Value.slice none 0 0]++Z))) from (List.append_assoc ..).symm))) ?_
 refine sG<|Sy.seq<|sC ?_
 refine sp rfl<|sp rfl<|sP (.pointer (some ⟨gx,f,none⟩))<|sS (.int .i64 x1) (Quiet.cell 1 gx f tx 3 (A++[Value.int .i64 x1]++(x2.1.map bv++[Value.int .u32 (x2.2:Int)])++(cs3)++((Z32++([Value.slice none 0 0]++([Value.int .u32 0]++([Value.int .u32 0]++([Value.slice none 0 0]++([Value.slice none 0 0]))))))++([Value.slice none 0 0]++Z))).toArray _ _ rfl kR rfl Tryz.underlying3 rfl _ (by rw [show (A++[Value.int .i64 x1]++(x2.1.map bv++[Value.int .u32 (x2.2:Int)])++(cs3)++((Z32++([Value.slice none 0 0]++([Value.int .u32 0]++([Value.int .u32 0]++([Value.slice none 0 0]++([Value.slice none 0 0]))))))++([Value.slice none 0 0]++Z)))=A++([Value.int .i64 x1]++(x2.1.map bv++[Value.int .u32 (x2.2:Int)]++(cs3++((Z32++([Value.slice none 0 0]++([Value.int .u32 0]++([Value.int .u32 0]++([Value.slice none 0 0]++([Value.slice none 0 0]))))))++([Value.slice none 0 0]++Z))))) by simp only [List.append_assoc],List.getElem?_toArray,List.getElem?_append_right (by omega),hA,Nat.sub_self]; rfl)) ?_
 refine sG<|Sy.block<|sC ?_
 have p5:(CRS gc gr gx tx (A++[Value.int .i64 x1]++(x2.1.map bv++[Value.int .u32 (x2.2:Int)])++(cs3)++((Z32++([Value.slice none 0 0]++([Value.int .u32 0]++([Value.int .u32 0]++([Value.slice none 0 0]++([Value.slice none 0 0]))))))++([Value.slice none 0 0]++Z))) sl3 s3.e (R++N1++N2++N3)).Perm (CRN gc gr sl3 s3.e ((gx,tx,(A++[Value.int .i64 x1]++(x2.1.map bv++[Value.int .u32 (x2.2:Int)])++(cs3)++((Z32++([Value.slice none 0 0]++([Value.int .u32 0]++([Value.int .u32 0]++([Value.slice none 0 0]++([Value.slice none 0 0]))))))++([Value.slice none 0 0]++Z))).toArray)::(R++N1++N2++N3))):=swap23
 have head:∀ {p:Ps MIn} {y:MIn} {s':RS},After (bindP (mustP (okK2 x1)) λ_=>bindP (takeP 32) λp=>bindP (numP 4) λx=>bindP rdIS λi=>bindP (if x1=2 then rdPG else retP zPG) λg=>bindP (listP 16 (textP 256)) λw=>retP ⟨x1,p,x,i,g,w⟩) s1 y s'→After rdIN s y s':=λh=>a1.bind h
 have a2':∀ {α:Type} {q:Byt→Nat→Ps α} {y:α} {s':RS},After (q x2.1 x2.2) s2 y s'→After (bindP (takeP 32) λp=>bindP (numP 4) λx=>q p x) s1 y s':=λ{α} {q} {y} {s'} h=>by
  have e:(bindP (takeP 32) λp=>bindP (numP 4) λx=>q p x)=bindP rdOP λz=>q z.1 z.2:=by
   funext l
   unfold rdOP
   cases ht:takeP 32 l with
   | none=>rw [bind_none ht,bind_none]; exact bind_none ht
   | some u =>
    obtain ⟨p,r⟩:=u
    rw [bind_some ht]
    cases hn:numP 4 r with
    | none=>rw [bind_none hn,bind_none]; rw [bind_some ht,bind_none hn]
    | some v =>
     obtain ⟨x,r2⟩:=v
     rw [bind_some hn,bind_some (show bindP (takeP 32) (λp=>bindP (numP 4) λn=>retP (p,n)) l=some ((p,x),r2) by rw [bind_some ht,bind_some hn]; rfl)]
  rw [e]
  exact a2.bind h
 by_cases hk1:x1=1
 ·subst hk1
  refine sP (.bool true)<|sp rfl ?_
  refine sG<|sT<|Sy.region ?_
  refine sp rfl<|sp rfl<|sp rfl<|sP (.pointer (some ⟨gx,f+84,none⟩))<|sS (.agg (Z32++([Value.slice none 0 0]++([Value.int .u32 0]++([Value.int .u32 0]++([Value.slice none 0 0]++([Value.slice none 0 0])))))).toArray) (Quiet.mid 1 gx (f+84) 37 tx 148 (A++[Value.int .i64 1]++(x2.1.map bv++[Value.int .u32 (x2.2:Int)])++(cs3)++((Z32++([Value.slice none 0 0]++([Value.int .u32 0]++([Value.int .u32 0]++([Value.slice none 0 0]++([Value.slice none 0 0]))))))++([Value.slice none 0 0]++Z))) (Z32++([Value.slice none 0 0]++([Value.int .u32 0]++([Value.int .u32 0]++([Value.slice none 0 0]++([Value.slice none 0 0])))))) _ _ rfl kR rfl Tryz.underlying148 rfl kR (mid_cells A3 rfl) (mid_size A3 rfl))<|sS (.bool true) (qg (λw _=>by have q:=noPeg_any w zPG none none none 0 0 0 0 0 0 rfl rfl rfl rfl; rw [nul_zPG] at q; exact q)) ?_
  refine Sy.permS (M:=CRN gc gr sl3 s3.e ((gx,tx,(A++[Value.int .i64 1]++(x2.1.map bv++[Value.int .u32 (x2.2:Int)])++(cs3)++((Z32++([Value.slice none 0 0]++([Value.int .u32 0]++([Value.int .u32 0]++([Value.slice none 0 0]++([Value.slice none 0 0]))))))++([Value.slice none 0 0]++Z))).toArray)::(R++N1++N2++N3))) swap23 ?_
  refine Sy.callT (λw hw=>must_r w0.inn gc gr sl3 s3.e e3 ((gx,tx,(A++[Value.int .i64 1]++(x2.1.map bv++[Value.int .u32 (x2.2:Int)])++(cs3)++((Z32++([Value.slice none 0 0]++([Value.int .u32 0]++([Value.int .u32 0]++([Value.slice none 0 0]++([Value.slice none 0 0]))))))++([Value.slice none 0 0]++Z))).toArray)::(R++N1++N2++N3)) true w hw) (λu M hM=>?_)
  subst hM
  rw [if_pos rfl]
  refine Sy.permS (M:=CRS gc gr gx tx (A++[Value.int .i64 1]++(x2.1.map bv++[Value.int .u32 (x2.2:Int)])++(cs3)++((Z32++([Value.slice none 0 0]++([Value.int .u32 0]++([Value.int .u32 0]++([Value.slice none 0 0]++([Value.slice none 0 0]))))))++([Value.slice none 0 0]++Z))) sl3 s3.e (R++N1++N2++N3)) swap23 ?_
  refine Sy.nil<|Sy.in_<|Sy.then_<|Sy.region ?_
  have A4:(A++[Value.int .i64 1]++(x2.1.map bv++[Value.int .u32 (x2.2:Int)])++(cs3)++((Z32++([Value.slice none 0 0]++([Value.int .u32 0]++([Value.int .u32 0]++([Value.slice none 0 0]++([Value.slice none 0 0])))))))).length=f+121:=by rw [List.length_append,A3]; rfl
  refine sp rfl<|sp rfl<|sp rfl<|sP (.pointer (some ⟨gx,f+121,none⟩)) ?_
  refine Sy.callT (λw hw=>list_r_wit (rep:=repY) (p:=textP 256) one_y monoTT witness_r w0.inn gc gr gx (f+121) 16 (by decide) tx (A++[Value.int .i64 1]++(x2.1.map bv++[Value.int .u32 (x2.2:Int)])++(cs3)++((Z32++([Value.slice none 0 0]++([Value.int .u32 0]++([Value.int .u32 0]++([Value.slice none 0 0]++([Value.slice none 0 0])))))))) Z sl3 s3 (R++N1++N2++N3) S (λb h=>List.mem_append_left _ (List.mem_append_left _ (List.mem_append_left _ (hS b h)))) A4 e3 (Nat.le_trans g3 hl) y3 w (by have e:A++[Value.int .i64 1]++(x2.1.map bv++[Value.int .u32 (x2.2:Int)])++(cs3)++((Z32++([Value.slice none 0 0]++([Value.int .u32 0]++([Value.int .u32 0]++([Value.slice none 0 0]++([Value.slice none 0 0])))))))++([Value.slice none 0 0]++Z)=A++[Value.int .i64 1]++(x2.1.map bv++[Value.int .u32 (x2.2:Int)])++(cs3)++((Z32++([Value.slice none 0 0]++([Value.int .u32 0]++([Value.int .u32 0]++([Value.slice none 0 0]++([Value.slice none 0 0]))))))++([Value.slice none 0 0]++Z)):=List.append_assoc ..; rw [e]; exact hw)) (λu M hM=>?_)
  obtain ⟨x5,s5,sl5,cs5,N5,a5,n5,o5,⟨v5,rfl,r5⟩,e5,h5,y5,rfl⟩:=hM
  refine Sy.nil ?_
  have hAf:After rdIN s ⟨1,x2.1,x2.2,x3,zPG,x5⟩ s5:=head (p:=rdIN) (After.mustY rfl (a2' (a3.bind (After.bind (by rw [if_neg (by decide)]; exact After.ret _ _) (a5.bind (After.ret _ _))))))
  have hRp:repIN (rdB (N1++(N2++(N3++N5)))) ([Value.int .i64 1]++(x2.1.map bv++[Value.int .u32 (x2.2:Int)]++(cs3++((Z32++([Value.slice none 0 0]++([Value.int .u32 0]++([Value.int .u32 0]++([Value.slice none 0 0]++([Value.slice none 0 0]))))))++([v5]))))) ⟨1,x2.1,x2.2,x3,zPG,x5⟩:=⟨cs3,(Z32++([Value.slice none 0 0]++([Value.int .u32 0]++([Value.int .u32 0]++([Value.slice none 0 0]++([Value.slice none 0 0])))))),v5,rfl,r2a,r2b,monoIS (rdB_le λb h=>by simp [h]) r3,zPG_rep _,LstR.le (rep:=repY) monoTT (rdB_le λb h=>by simp [h]) r5⟩
  exact Sy.retT0 rfl (CRS gc gr gx tx (A++(([Value.int .i64 1]++(x2.1.map bv++[Value.int .u32 (x2.2:Int)]++(cs3++((Z32++([Value.slice none 0 0]++([Value.int .u32 0]++([Value.int .u32 0]++([Value.slice none 0 0]++([Value.slice none 0 0]))))))++([v5])))))++Z)) sl5 s5.e (R++(N1++(N2++(N3++N5))))) (λ_ h=>by simpa only [List.append_assoc,List.cons_append,List.nil_append] using h) (λ_=>⟨_,s5,sl5,_,_,hAf,lenIN hRp,oneIN hRp,hRp,e5,Nat.le_trans h5 g3,y5,rfl⟩)
 refine sS (.bool false) (Quiet.pure (exec_int .eql _ _ _ .i64 _ _ _ rfl rfl rfl (int_eql _ _ _ _ _ (decide_eq_false hk1))))<|sp rfl ?_
 refine sG<|sU<|sC ?_
 by_cases hk2:x1=2
 ·subst hk2
  refine sP (.bool true)<|sp rfl ?_
  refine sG<|sT<|Sy.region ?_
  refine sp rfl<|sp rfl<|sp rfl<|sP (.pointer (some ⟨gx,f+84,none⟩)) ?_
  refine Sy.callT (λw hw=>peg_r w0.inn gc gr gx (f+84) tx (A++[Value.int .i64 2]++(x2.1.map bv++[Value.int .u32 (x2.2:Int)])++(cs3)) ([Value.slice none 0 0]++Z) sl3 s3 (R++N1++N2++N3) S (λb h=>List.mem_append_left _ (List.mem_append_left _ (List.mem_append_left _ (hS b h)))) A3 e3 (Nat.le_trans g3 hl) y3 w hw) (λu M hM=>?_)
  obtain ⟨x4,s4,sl4,cs4,N4,a4,n4,o4,r4,e4,h4,y4,rfl⟩:=hM
  have g4:s4.rest.length≤s.rest.length:=Nat.le_trans h4 g3
  have A4:(A++[Value.int .i64 2]++(x2.1.map bv++[Value.int .u32 (x2.2:Int)])++(cs3)++(cs4)).length=f+121:=by rw [List.length_append,A3,n4]
  refine Sy.nil<|Sy.in_<|Sy.then_<|Sy.region ?_
  refine sp rfl<|sp rfl<|sp rfl<|sP (.pointer (some ⟨gx,f+121,none⟩)) ?_
  refine Sy.callT (λw hw=>list_r_wit (rep:=repY) (p:=textP 256) one_y monoTT witness_r w0.inn gc gr gx (f+121) 16 (by decide) tx (A++[Value.int .i64 2]++(x2.1.map bv++[Value.int .u32 (x2.2:Int)])++(cs3)++(cs4)) Z sl4 s4 (R++N1++N2++N3++N4) S (λb h=>List.mem_append_left _ (List.mem_append_left _ (List.mem_append_left _ (List.mem_append_left _ (hS b h))))) A4 e4 (Nat.le_trans g4 hl) y4 w (by have e:A++[Value.int .i64 2]++(x2.1.map bv++[Value.int .u32 (x2.2:Int)])++(cs3)++(cs4)++([Value.slice none 0 0]++Z)=A++[Value.int .i64 2]++(x2.1.map bv++[Value.int .u32 (x2.2:Int)])++(cs3)++(cs4++([Value.slice none 0 0]++Z)):=List.append_assoc ..; rw [e]; exact hw)) (λu M hM=>?_)
  obtain ⟨x5,s5,sl5,cs5,N5,a5,n5,o5,⟨v5,rfl,r5⟩,e5,h5,y5,rfl⟩:=hM
  refine Sy.nil ?_
  have hAf:After rdIN s ⟨2,x2.1,x2.2,x3,x4,x5⟩ s5:=head (p:=rdIN) (After.mustY rfl (a2' (a3.bind (After.bind (by rw [if_pos rfl]; exact a4) (a5.bind (After.ret _ _))))))
  have hRp:repIN (rdB (N1++(N2++(N3++(N4++N5))))) ([Value.int .i64 2]++(x2.1.map bv++[Value.int .u32 (x2.2:Int)]++(cs3++(cs4++([v5]))))) ⟨2,x2.1,x2.2,x3,x4,x5⟩:=⟨cs3,cs4,v5,rfl,r2a,r2b,monoIS (rdB_le λb h=>by simp [h]) r3,monoPG (rdB_le λb h=>by simp [h]) r4,LstR.le (rep:=repY) monoTT (rdB_le λb h=>by simp [h]) r5⟩
  exact Sy.retT0 rfl (CRS gc gr gx tx (A++(([Value.int .i64 2]++(x2.1.map bv++[Value.int .u32 (x2.2:Int)]++(cs3++(cs4++([v5])))))++Z)) sl5 s5.e (R++(N1++(N2++(N3++(N4++N5)))))) (λ_ h=>by simpa only [List.append_assoc,List.cons_append,List.nil_append] using h) (λ_=>⟨_,s5,sl5,_,_,hAf,lenIN hRp,oneIN hRp,hRp,e5,Nat.le_trans h5 g4,y5,rfl⟩)
 refine sS (.bool false) (Quiet.pure (exec_int .eql _ _ _ .i64 _ _ _ rfl rfl rfl (int_eql _ _ _ _ _ (decide_eq_false hk2))))<|sp rfl ?_
 refine sG<|sU<|Sy.region ?_
 refine sp rfl ?_
 refine Sy.permS p5 ?_
 refine Sy.callT (λw hw=>must_r w0.inn gc gr sl3 s3.e e3 ((gx,tx,(A++[Value.int .i64 x1]++(x2.1.map bv++[Value.int .u32 (x2.2:Int)])++(cs3)++((Z32++([Value.slice none 0 0]++([Value.int .u32 0]++([Value.int .u32 0]++([Value.slice none 0 0]++([Value.slice none 0 0]))))))++([Value.slice none 0 0]++Z))).toArray)::(R++N1++N2++N3)) false w hw) (λu M hM=>?_)
 subst hM
 obtain ⟨e4,he4⟩:∃ e4,e4=if false=true then s3.e else if s3.e=0 then 120 else s3.e:=⟨_,rfl⟩
 rw [← he4]
 rw [if_neg (by decide)] at he4
 have hne:e4≠0:=by rw [he4]; split <;> omega
 have he4':e4≤200:=by rw [he4]; split <;> omega
 refine Sy.permS (M:=CRS gc gr gx tx (A++[Value.int .i64 x1]++(x2.1.map bv++[Value.int .u32 (x2.2:Int)])++(cs3)++((Z32++([Value.slice none 0 0]++([Value.int .u32 0]++([Value.int .u32 0]++([Value.slice none 0 0]++([Value.slice none 0 0]))))))++([Value.slice none 0 0]++Z))) sl3 e4 (R++N1++N2++N3)) swap23 ?_
 refine Sy.nil<|Sy.in_<|Sy.then_<|Sy.region ?_
 have A4:(A++[Value.int .i64 x1]++(x2.1.map bv++[Value.int .u32 (x2.2:Int)])++(cs3)++((Z32++([Value.slice none 0 0]++([Value.int .u32 0]++([Value.int .u32 0]++([Value.slice none 0 0]++([Value.slice none 0 0])))))))).length=f+121:=by rw [List.length_append,A3]; rfl
 refine sp rfl<|sp rfl<|sp rfl<|sP (.pointer (some ⟨gx,f+121,none⟩)) ?_
 refine Sy.callT (λw hw=>list_r_wit (rep:=repY) (p:=textP 256) one_y monoTT witness_r w0.inn gc gr gx (f+121) 16 (by decide) tx (A++[Value.int .i64 x1]++(x2.1.map bv++[Value.int .u32 (x2.2:Int)])++(cs3)++((Z32++([Value.slice none 0 0]++([Value.int .u32 0]++([Value.int .u32 0]++([Value.slice none 0 0]++([Value.slice none 0 0])))))))) Z sl3 ⟨s3.rest,e4⟩ (R++N1++N2++N3) S (λb h=>List.mem_append_left _ (List.mem_append_left _ (List.mem_append_left _ (hS b h)))) A4 he4' (Nat.le_trans g3 hl) y3 w (by have e:A++[Value.int .i64 x1]++(x2.1.map bv++[Value.int .u32 (x2.2:Int)])++(cs3)++((Z32++([Value.slice none 0 0]++([Value.int .u32 0]++([Value.int .u32 0]++([Value.slice none 0 0]++([Value.slice none 0 0])))))))++([Value.slice none 0 0]++Z)=A++[Value.int .i64 x1]++(x2.1.map bv++[Value.int .u32 (x2.2:Int)])++(cs3)++((Z32++([Value.slice none 0 0]++([Value.int .u32 0]++([Value.int .u32 0]++([Value.slice none 0 0]++([Value.slice none 0 0]))))))++([Value.slice none 0 0]++Z)):=List.append_assoc ..; rw [e]; exact hw)) (λu M hM=>?_)
 obtain ⟨x5,s5,sl5,cs5,N5,a5,n5,o5,⟨v5,rfl,r5⟩,e5,h5,y5,rfl⟩:=hM
 refine Sy.nil ?_
 have hAf:After rdIN s ⟨x1,x2.1,x2.2,x3,zPG,x5⟩ s5:=head (p:=rdIN) (by rw [okK2_of (λh=>h.elim hk1 hk2)]; exact After.mustX _ _ (a5.bad hne))
 have hRp:repIN (rdB (N1++(N2++(N3++N5)))) ([Value.int .i64 x1]++(x2.1.map bv++[Value.int .u32 (x2.2:Int)]++(cs3++((Z32++([Value.slice none 0 0]++([Value.int .u32 0]++([Value.int .u32 0]++([Value.slice none 0 0]++([Value.slice none 0 0]))))))++([v5]))))) ⟨x1,x2.1,x2.2,x3,zPG,x5⟩:=⟨cs3,(Z32++([Value.slice none 0 0]++([Value.int .u32 0]++([Value.int .u32 0]++([Value.slice none 0 0]++([Value.slice none 0 0])))))),v5,rfl,r2a,r2b,monoIS (rdB_le λb h=>by simp [h]) r3,zPG_rep _,LstR.le (rep:=repY) monoTT (rdB_le λb h=>by simp [h]) r5⟩
 exact Sy.retT0 rfl (CRS gc gr gx tx (A++(([Value.int .i64 x1]++(x2.1.map bv++[Value.int .u32 (x2.2:Int)]++(cs3++((Z32++([Value.slice none 0 0]++([Value.int .u32 0]++([Value.int .u32 0]++([Value.slice none 0 0]++([Value.slice none 0 0]))))))++([v5])))))++Z)) sl5 s5.e (R++(N1++(N2++(N3++N5))))) (λ_ h=>by simpa only [List.append_assoc,List.cons_append,List.nil_append] using h) (λ_=>⟨_,s5,sl5,_,_,hAf,lenIN hRp,oneIN hRp,hRp,e5,Nat.le_trans h5 g3,y5,rfl⟩)
section
variable {α:Type} {rep:Rdr→List Value→α→Prop} {ok:α→Bool} {enc:α→Byt} {wt:α→Nat}
theorem el_w_ins (hm:Mono rep) (hp:PutO 61 122 rep ok enc wt) (w0:Base) (gc gw g4 g7:Nat) (bad:Bool) (s:Slc) (R:Blocks) (b:Byt) (u:Value) (cs:List Value) (x:α) (h4:(g4,85,#[ptr gc])∈R) (h7:(g7,153,#[.func (.func 61) #[] #[]])∈R) (hx:rep (rdC w0 R) cs x) (hl:cs.length=122) (hb:BS s b) (hlen:b.length+wt x≤70368744170000) (w:World) (hw:St w0 w (CWS gc gw bad s R)) :
  Calls Tryz.prog 104 #[u,.agg cs.toArray,ptr g7,ptr g4] w (Turns w0 (WrC gc gw R (ok x) (enc x) (wt x) bad b)):=by
 refine Sy.enterT (args:=[u,.agg cs.toArray,ptr g7,ptr g4]) hw Tryz.func104 rfl kL ?_
 refine sC ?_
 refine sM 151 cs.toArray (λg5=>?_) kR (λw=>run_boxR rfl rfl (by kernel_rfl) hl w)
 refine Sy.permS (List.Perm.of_eq eqCW) ?_
 refine Sy.nil<|Sy.then_<|Sy.region ?_
 refine sS (.func (.func 61) #[] #[]) (cellC (R:=R++[(g5,151,cs.toArray)]) (mem1 (inA h7)) inCW rfl Tryz.underlying153)<|sS (ptr gc) (cellC (R:=R++[(g5,151,cs.toArray)]) (mem1 (inA h4)) inCW rfl Tryz.underlying85) ?_
 refine Sy.callT (λw hw=>hp w0.inn gc gw g5 0 bad s (R++[(g5,151,cs.toArray)]) b cs x (hm (rdC_le (λ_ h=>inA h)) hx) hl (ownX lastR) hb hlen w hw) (λv M hM=>?_)
 obtain ⟨s1,bad1,b1,h1,h2,rfl⟩:=hM
 refine Sy.nil ?_
 exact Sy.retT0 rfl (CWS gc gw bad1 s1 R) (λ_ h=>dropR h) (λ_=>⟨s1,bad1,b1,h1,h2,rfl⟩)
end
section
variable {α:Type} {rep:Rdr→List Value→α→Prop} {ok:α→Bool} {enc:α→Byt} {wt:α→Nat}
theorem put_w_ins (hm:Mono rep) (hp:PutO 61 122 rep ok enc wt) (w0:Base) (gc gw g4 g7:Nat) (bad:Bool) (s:Slc) (R:Blocks) (b:Byt) (v:Value) (l:List α) (h4:(g4,85,#[ptr gc])∈R) (h7:(g7,153,#[.func (.func 61) #[] #[]])∈R) (hv:LstR (rdC w0 R) 122 rep v l) (hb:BS s b) (hlen:b.length+(9+(l.map wt).sum)≤70368744170000) (w:World) (hw:St w0 w (CWS gc gw bad s R)) :
  Calls Tryz.prog 103 #[ptr gw,v,.func (.func 104) #[] #[ptr g7,ptr g4]] w (Turns w0 (WrC gc gw R (l.all ok) (varB l.length++l.flatMap enc) (9+(l.map wt).sum) bad b)):=by
 obtain ⟨A,n,cp,rfl,h2,h3,h4',h5⟩:=hv
 have hmx:n<9223372036854775808:=by simp only [maxLen] at h4'; omega
 refine Sy.enterT (args:=[ptr gw,.slice A n cp,.func (.func 104) #[] #[ptr g7,ptr g4]]) hw Tryz.func103 rfl kL ?_
 refine sC ?_
 refine sp rfl<|sp rfl<|sP (.int .i64 (n:Int))<|sS (.int .u64 (n:Int)) (Quiet.pure (λw=>conv_i6 w _ _ _ n (by omega) rfl rfl)) ?_
 refine Sy.callT (λw hw=>var_any w0.inn gw s ((gc,134,#[ptr gw,.pointer none,.bool bad])::R) b n (by omega) hb (by omega) w (hw.perm permCW)) (λu M hM=>?_)
 obtain ⟨s1,hs1,rfl⟩:=hM
 have hn9:=varB_len n
 refine Sy.permS permCW.symm ?_
 refine Sy.nil<|sB ?_
 refine sp rfl<|sP (.int .i64 (n:Int))<|sP (.int .i64 0) ?_
 refine sG<|Sy.block ?_
 have hw0:Wrote true (varB n) 9 bad b bad (b++varB n):=Wrote.raw _ _ _ hn9
 have hsum:∀ i,((l.take i).map wt).sum≤(l.map wt).sum:=λi=>by
  have e:=congrArg (λz=>(z.map wt).sum) (List.take_append_drop i l)
  simp only [List.map_append,List.sum_append] at e
  omega
 refine Sy.loopT (Y:=Slc×Bool×Byt) n (λi y=>[(0,ptr gw),(2,.func (.func 104) #[] #[ptr g7,ptr g4]),(13,.slice A n cp),(14,.int .i64 (n:Int)),(15,.int .i64 (i:Int))]) (λi y=>CWS gc gw y.2.1 y.1 R) (λi y=>Wrote ((l.take i).all ok) (varB n++(l.take i).flatMap enc) (9+((l.take i).map wt).sum) bad b y.2.1 y.2.2∧BS y.1 y.2.2) (s1,bad,b++varB n) ⟨by
  have e:Wrote ((l.take 0).all ok) (varB n++(l.take 0).flatMap enc) (9+((l.take 0).map wt).sum) bad b bad (b++varB n):=by
   rw [List.take_zero]
   simpa using hw0
  exact e,hs1⟩ (all_cons kR (all_cons kR (all_cons kR (all_cons kR (all_cons kR all_nil))))) (λ_ h=>h) (λi y hi hy=>?_)
 obtain ⟨sy,bady,by_⟩:=y
 obtain ⟨hy,hsy⟩:=hy
 dsimp only at hy hsy ⊢
 refine sC ?_
 obtain ⟨b2,hb2⟩:∃ z:Bool,z=decide (i<n):=⟨_,rfl⟩
 refine sS (.bool b2) (Quiet.pure (exec_int .lss _ _ _ .i64 _ _ _ rfl rfl rfl (int_lss _ _ _ _ _ (by rw [hb2]; exact decide_eq_decide.2 (by omega))))) ?_
 refine sG<|Sy.seq ?_
 cases b2
 case' false =>
  have l2:¬ i<n:=of_decide_eq_false hb2.symm
  obtain rfl:i=n:=by omega
  rw [List.take_of_length_le (by omega)] at hy
  refine sU<|Sy.exit<|Sy.then_exit<|Sy.then_exit<|Sy.in_exit ?_
  rw [h2]
  exact Sy.retT0 rfl (CWS gc gw bady sy R) (λ_ h=>h) (λ_=>⟨sy,bady,by_,hy,hsy,rfl⟩)
 have l2:i<n:=of_decide_eq_true hb2.symm
 obtain ⟨x,hx⟩:∃ x,l[i]? = some x:=⟨_,List.getElem?_eq_getElem (by omega)⟩
 obtain ⟨g,o,rfl,hq⟩:=h5 (by intro e; rw [e] at hx; cases hx)
 obtain ⟨cs,c1,c2,c3,c4⟩:=hq i x hx
 have htk:l.take (i+1)=l.take i++[x]:=by rw [List.take_add_one,hx]; rfl
 have hsi:=hsum (i+1)
 rw [htk] at hsi
 simp only [List.map_append,List.sum_append,List.map_cons,List.map_nil,List.sum_cons,List.sum_nil] at hsi
 refine sT<|Sy.skip<|Sy.then_<|Sy.seq<|Sy.block<|sC ?_
 refine sS (.pointer (some ⟨g,o+i*122,none⟩)) (Quiet.pure (exec_atO 23 _ _ _ (some ⟨g,o,none⟩) g o n cp i 122 .i64 rfl rfl rfl rfl Tryz.underlying23 kF l2))<|sS (.agg cs.toArray) (rowC (R:=R) c4 inCW c1 rfl Tryz.underlying151) ?_
 refine sM 151 (([Value.int .i64 0]++((Z32++([Value.int .u32 0]))++(([Value.int .i64 0]++(([Value.bool false]++([Value.int .u64 0]++lPT ⟨0,0,false⟩))++([Value.slice none 0 0]++([Value.int .u64 0]++(Z32++(Cu.fws 0))))))++((Z32++([Value.slice none 0 0]++([Value.int .u32 0]++([Value.int .u32 0]++([Value.slice none 0 0]++([Value.slice none 0 0]))))))++([Value.slice none 0 0])))))).toArray (λg9=>?_)
 refine Sy.permS (List.Perm.of_eq eqCW) ?_
 refine Sy.permS (List.perm_append_comm (l₁:=CWS gc gw bady sy R) (l₂:=[(g9,151,(([Value.int .i64 0]++((Z32++([Value.int .u32 0]))++(([Value.int .i64 0]++(([Value.bool false]++([Value.int .u64 0]++lPT ⟨0,0,false⟩))++([Value.slice none 0 0]++([Value.int .u64 0]++(Z32++(Cu.fws 0))))))++((Z32++([Value.slice none 0 0]++([Value.int .u32 0]++([Value.int .u32 0]++([Value.slice none 0 0]++([Value.slice none 0 0]))))))++([Value.slice none 0 0])))))).toArray)]) |> λh=>(List.Perm.of_eq eqCW.symm).trans h) ?_
 refine sw 0 rfl cs.toArray (Writes.row 151 cs 122 _ _ rfl kR kR kR c1 (by kernel_rfl) c2) ?_
 refine Sy.permS ((List.perm_append_comm (l₁:=[(g9,151,cs.toArray)]) (l₂:=CWS gc gw bady sy R)).trans (List.Perm.of_eq eqCW)) ?_
 refine Sy.nil<|Sy.then_<|Sy.region ?_
 refine sp rfl<|sp rfl<|sS (.agg cs.toArray) (rowC (R:=R++[(g9,151,cs.toArray)]) (memX lastR) inCW c1 rfl Tryz.underlying151) ?_
 refine Sy.callT (λw hw=>el_w_ins (rep:=rep) (ok:=ok) (enc:=enc) (wt:=wt) hm hp w0.inn gc gw g4 g7 bady sy (R++[(g9,151,cs.toArray)]) by_ (ptr gw) cs x (inA h4) (inA h7) (hm (rdC_le (λ_ h=>inA h)) c3) c1 hsy (by have hyl:=hy.len; omega) w hw) (λv M hM=>?_)
 obtain ⟨s3,bad3,b3,q1,q2,rfl⟩:=hM
 refine Sy.nil<|Sy.in_<|Sy.then_<|Sy.region ?_
 refine sS (.int .i64 ((i+1:Nat):Int)) (Quiet.pure (exec_int .add _ _ _ .i64 _ _ _ rfl rfl rfl (int_add _ _ _ _ _ ((wrap_i64 (by omega) (by omega)).trans (by omega)))))<|sp rfl ?_
 refine Sy.nil ?_
 have hW:=hy.then_ q1
 have hW':Wrote ((l.take (i+1)).all ok) (varB n++(l.take (i+1)).flatMap enc) (9+((l.take (i+1)).map wt).sum) bad b bad3 b3:=by
  rw [htk]
  simp only [List.all_append,List.flatMap_append,List.map_append,List.sum_append,List.all_cons,List.all_nil,List.flatMap_cons,List.flatMap_nil,List.map_cons,List.map_nil,List.sum_cons,List.sum_nil,Bool.and_true,List.append_nil,Nat.add_zero, ← List.append_assoc, ← Nat.add_assoc]
  simpa only [List.append_assoc,Nat.add_assoc] using hW
 exact Sy.againT (s3,bad3,b3) l2 ⟨hW',q2⟩ (all_cons kR (all_cons kR (all_cons kR (all_cons kR (all_cons kR all_nil))))) (λw h=>dropR h)
theorem list_w_ins (hm:Mono rep) (hp:PutO 61 122 rep ok enc wt) (w0:Base) (gc gw gx f most:Nat) (hmo:most<1000000) (bad:Bool) (s:Slc) (R:Blocks) (b:Byt) (v:Value) (l:List α) (hv:LstR (rdC w0 R) 122 rep v l) (hc:rdC w0 R gx f v) (hb:BS s b) (hlen:b.length+(9+(l.map wt).sum)≤70368744170000) (w:World) (hw:St w0 w (CWS gc gw bad s R)) :
  Calls Tryz.prog 60 #[ptr gc,.pointer (some ⟨gx,f,none⟩),.int .i64 (most:Int),.func (.func 61) #[] #[]] w (Turns w0 (WrC gc gw R (decide (l.length≤most) && l.all ok) (varB l.length++l.flatMap enc) (9+(l.map wt).sum) bad b)):=by
 have hv0:=hv
 obtain ⟨A,n,cp,rfl,h2,h3,h4',h5⟩:=hv
 refine Sy.enterT (args:=[ptr gc,.pointer (some ⟨gx,f,none⟩),.int .i64 (most:Int),.func (.func 61) #[] #[]]) hw Tryz.func60 rfl kL ?_
 refine sC ?_
 refine sM 85 #[ptr gc] (λg4=>?_)
 refine Sy.permS (List.Perm.of_eq eqCW) ?_
 refine sM 153 #[.func (.func 61) #[] #[]] (λg7=>?_)
 refine Sy.permS (List.Perm.of_eq eqCW) ?_
 obtain ⟨R1,hR1⟩:∃ R1,R1=R++[(g4,85,#[ptr gc])]++[(g7,153,#[.func (.func 61) #[] #[]])]:=⟨_,rfl⟩
 rw [← hR1]
 have m4:(g4,85,#[ptr gc])∈R1:=by rw [hR1]; exact inA lastR
 have m7:(g7,153,#[.func (.func 61) #[] #[]])∈R1:=by rw [hR1]; exact lastR
 have mR:∀ x∈R,x∈R1:=λx hx=>by rw [hR1]; exact inA (inA hx)
 have hv1:LstR (rdC w0 R1) 122 rep (.slice A n cp) l:=LstR.le (rep:=rep) hm (rdC_le mR) hv0
 have hc1:rdC w0 R1 gx f (.slice A n cp):=rdC_le mR _ _ _ hc
 have back:∀ {w:World} {bad':Bool} {s':Slc},St w0 w (CWS gc gw bad' s' R1)→St w0 w (CWS gc gw bad' s' R):=λh=>by
  rw [hR1,List.append_assoc] at h
  exact dropR h
 refine sG<|Sy.seq<|sC ?_
 refine sS (ptr gc) (cellC (R:=R1) (mem1 m4) inCW rfl Tryz.underlying85)<|sS (.bool false) (qg (λw hw=>reads_w w0.inn gc _ _ (List.mem_cons_self ..) w hw)) ?_
 refine sG<|sU<|Sy.skip ?_
 obtain ⟨b1,hb1⟩:∃ z:Bool,z=decide (n≤most):=⟨_,rfl⟩
 refine sR (λj=>j == 7) ?_
 refine sD 0 rfl (ptr gc) (cellC (R:=R1) (mem1 m4) inCW rfl Tryz.underlying85)<|sa 1 rfl rfl<|sa 2 rfl rfl<|se 3 [4,6,7] rfl (.slice A n cp) (cellC (R:=R1) hc1 inCW rfl Tryz.underlying23)<|sb 4 rfl (.int .i64 (n:Int))<|sa 5 rfl rfl ?_
 refine sv 6 rfl (.bool b1) (exec_int .leq _ _ _ .i64 _ _ _ rfl rfl rfl (int_leq _ _ _ _ _ (by rw [hb1]; exact decide_eq_decide.2 (by omega)))) ?_
 refine Sy.soleD 7 rfl (λQ2 hq2=>?_)
 refine Sy.callT (λw hw=>must_w w0.inn gc gw bad b1 s R1 w hw) (λu M hM=>?_)
 subst hM
 refine hq2 _ _ ?_
 refine sE ?_
 obtain ⟨bad1,hbad1⟩:∃ x,x=(bad || !b1):=⟨_,rfl⟩
 rw [← hbad1]
 refine sB ?_
 refine sS (ptr gc) (cellC (R:=R1) (mem1 m4) inCW rfl Tryz.underlying85)<|sp rfl<|sP (.pointer (some ⟨gc,2,none⟩))<|sS (.bool bad1) (qc 0 2 rfl rfl Tryz.underlying4)<|sP (.bool (!bad1)) ?_
 refine sG ?_
 cases bad1
 ·have hb1t:bad=false∧b1=true:=by cases bad <;> cases b1 <;> first | exact ⟨rfl,rfl⟩ | cases hbad1
  obtain ⟨rfl,rfl⟩:=hb1t
  have e1:decide (l.length≤most)=true:=by rw [h2, ← hb1]
  rw [e1,Bool.true_and]
  refine sT ?_
  refine Sy.regionD (λj=>j == 8) kR ?_
  refine se 0 [1,2,3,8] rfl (ptr gc) (cellC (R:=R1) (mem1 m4) inCW rfl Tryz.underlying85)<|sa 1 rfl rfl<|sb 2 rfl (.pointer (some ⟨gc,0,none⟩))<|sD 3 rfl (ptr gw) (qc 0 0 rfl rfl Tryz.underlying130)<|sa 4 rfl rfl<|sa 5 rfl rfl<|sD 6 rfl (.slice A n cp) (cellC (R:=R1) hc1 inCW rfl Tryz.underlying23)<|sb 7 rfl (.func (.func 104) #[] #[ptr g7,ptr g4]) ?_
  refine Sy.soleD 8 rfl (λQ2 hq2=>?_)
  refine Sy.callT (λw hw=>put_w_ins (rep:=rep) hm hp w0.inn gc gw g4 g7 false s R1 b (.slice A n cp) l m4 m7 hv1 hb hlen w hw) (λu M hM=>?_)
  obtain ⟨s1,bad2,b2,q1,q2,rfl⟩:=hM
  refine hq2 _ _ ?_
  refine sE ?_
  exact Sy.retT0 rfl (CWS gc gw bad2 s1 R) (λ_ h=>back h) (λ_=>⟨s1,bad2,b2,q1,q2,rfl⟩)
 ·refine sU<|Sy.skip ?_
  have e1:true=(bad || !(decide (l.length≤most) && l.all ok)):=by
   rw [h2, ← hb1]
   cases bad
   ·cases b1
    ·rfl
    ·cases hbad1
   ·rfl
  exact Sy.retT0 rfl (CWS gc gw true s R) (λ_ h=>back h) (λ_=>⟨s,true,b,⟨e1,λh=>(by cases h),by omega⟩,hb,rfl⟩)
end
section
variable {α:Type} {rep:Rdr→List Value→α→Prop} {p:Ps α}
theorem el_r_ins (hm:Mono rep) (hp:GetC 61 122 ((([Value.int .i64 0]++((Z32++([Value.int .u32 0]))++(([Value.int .i64 0]++(([Value.bool false]++([Value.int .u64 0]++lPT ⟨0,0,false⟩))++([Value.slice none 0 0]++([Value.int .u64 0]++(Z32++(Cu.fws 0))))))++((Z32++([Value.slice none 0 0]++([Value.int .u32 0]++([Value.int .u32 0]++([Value.slice none 0 0]++([Value.slice none 0 0]))))))++([Value.slice none 0 0]))))))) rep p) (w0:Base) (gc gr g4 g7:Nat) (sl:Value) (s:RS) (R S:Blocks) (hS:∀ b∈S,b∈R) (h4:(g4,85,#[ptr gc])∈R) (h7:(g7,153,#[.func (.func 61) #[] #[]])∈R) (he:s.e≤200) (hl:s.rest.length≤70368744177664) (hv:BytR (rdC w0 S) sl s.rest) (u:Value) (w:World) (hw:St w0 w (CRN gc gr sl s.e R)) :
  Calls Tryz.prog 102 #[u,ptr g7,ptr g4] w (Turns w0 (RdV 122 rep p w0 gc gr s R S)):=by
 refine Sy.enterT (args:=[u,ptr g7,ptr g4]) hw Tryz.func102 rfl kL ?_
 refine sC ?_
 refine sM 151 ((([Value.int .i64 0]++((Z32++([Value.int .u32 0]))++(([Value.int .i64 0]++(([Value.bool false]++([Value.int .u64 0]++lPT ⟨0,0,false⟩))++([Value.slice none 0 0]++([Value.int .u64 0]++(Z32++(Cu.fws 0))))))++((Z32++([Value.slice none 0 0]++([Value.int .u32 0]++([Value.int .u32 0]++([Value.slice none 0 0]++([Value.slice none 0 0]))))))++([Value.slice none 0 0]))))))).toArray (λga=>?_)
 refine sA ?_
 refine sM 151 ((([Value.int .i64 0]++((Z32++([Value.int .u32 0]))++(([Value.int .i64 0]++(([Value.bool false]++([Value.int .u64 0]++lPT ⟨0,0,false⟩))++([Value.slice none 0 0]++([Value.int .u64 0]++(Z32++(Cu.fws 0))))))++((Z32++([Value.slice none 0 0]++([Value.int .u32 0]++([Value.int .u32 0]++([Value.slice none 0 0]++([Value.slice none 0 0]))))))++([Value.slice none 0 0]))))))).toArray (λgb=>?_)
 refine Sy.permS (M:=CRS gc gr gb 151 ([]++(((([Value.int .i64 0]++((Z32++([Value.int .u32 0]))++(([Value.int .i64 0]++(([Value.bool false]++([Value.int .u64 0]++lPT ⟨0,0,false⟩))++([Value.slice none 0 0]++([Value.int .u64 0]++(Z32++(Cu.fws 0))))))++((Z32++([Value.slice none 0 0]++([Value.int .u32 0]++([Value.int .u32 0]++([Value.slice none 0 0]++([Value.slice none 0 0]))))))++([Value.slice none 0 0])))))))++[])) sl s.e ((ga,151,((([Value.int .i64 0]++((Z32++([Value.int .u32 0]))++(([Value.int .i64 0]++(([Value.bool false]++([Value.int .u64 0]++lPT ⟨0,0,false⟩))++([Value.slice none 0 0]++([Value.int .u64 0]++(Z32++(Cu.fws 0))))))++((Z32++([Value.slice none 0 0]++([Value.int .u32 0]++([Value.int .u32 0]++([Value.slice none 0 0]++([Value.slice none 0 0]))))))++([Value.slice none 0 0]))))))).toArray)::R)) permEl ?_
 refine sA ?_
 refine sS (.func (.func 61) #[] #[]) (cellC (R:=(ga,151,((([Value.int .i64 0]++((Z32++([Value.int .u32 0]))++(([Value.int .i64 0]++(([Value.bool false]++([Value.int .u64 0]++lPT ⟨0,0,false⟩))++([Value.slice none 0 0]++([Value.int .u64 0]++(Z32++(Cu.fws 0))))))++((Z32++([Value.slice none 0 0]++([Value.int .u32 0]++([Value.int .u32 0]++([Value.slice none 0 0]++([Value.slice none 0 0]))))))++([Value.slice none 0 0]))))))).toArray)::R) (mem1 (List.mem_cons_of_mem _ h7)) inCR rfl Tryz.underlying153)<|sS (ptr gc) (cellC (R:=(ga,151,((([Value.int .i64 0]++((Z32++([Value.int .u32 0]))++(([Value.int .i64 0]++(([Value.bool false]++([Value.int .u64 0]++lPT ⟨0,0,false⟩))++([Value.slice none 0 0]++([Value.int .u64 0]++(Z32++(Cu.fws 0))))))++((Z32++([Value.slice none 0 0]++([Value.int .u32 0]++([Value.int .u32 0]++([Value.slice none 0 0]++([Value.slice none 0 0]))))))++([Value.slice none 0 0]))))))).toArray)::R) (mem1 (List.mem_cons_of_mem _ h4)) inCR rfl Tryz.underlying85) ?_
 refine Sy.callT (λw hw=>hp w0.inn gc gr gb 0 151 [] [] sl s ((ga,151,((([Value.int .i64 0]++((Z32++([Value.int .u32 0]))++(([Value.int .i64 0]++(([Value.bool false]++([Value.int .u64 0]++lPT ⟨0,0,false⟩))++([Value.slice none 0 0]++([Value.int .u64 0]++(Z32++(Cu.fws 0))))))++((Z32++([Value.slice none 0 0]++([Value.int .u32 0]++([Value.int .u32 0]++([Value.slice none 0 0]++([Value.slice none 0 0]))))))++([Value.slice none 0 0]))))))).toArray)::R) S (λb h=>List.mem_cons_of_mem _ (hS b h)) rfl he hl hv w hw) (λv M hM=>?_)
 obtain ⟨x,s',sl',cs,N,q1,q2,q3,q4,q5,q6,q7,rfl⟩:=hM
 rw [List.append_nil]
 refine sA ?_
 refine sS (.agg cs.toArray) (Quiet.mid 1 gb 0 122 151 151 cs cs _ _ rfl kR rfl Tryz.underlying151 rfl kR (by rw [List.drop_zero,List.take_of_length_le (by omega)]) (by omega))<|sw 3 rfl cs.toArray (Writes.row 151 cs 122 _ _ rfl kR kR kR q2 (by kernel_rfl) q3) ?_
 refine sG<|Sy.ret ?_
 exact Sy.retT1 (CRN gc gr sl' s'.e (R++N)) rfl (.inl (Sy.Res.cell (ty':=151) ga 3 cs.toArray _ (by kernel_rfl) rfl Tryz.underlying151 rfl (by rw [List.size_toArray,q2]; kernel_rfl) rfl)) (λw h=>h.less (((List.Sublist.refl _).cons _ |>.cons_cons _).cons _ |>.cons_cons _)) ⟨x,s',sl',cs,N,q1,q2,q3,q4,rfl,q5,q6,q7,rfl⟩
theorem items_r_ins (w:World) (gr most g4 g7:Nat):Calls Tryz.prog 163 #[ptr gr,.int .i64 (most:Int),.func (.func 102) #[] #[ptr g7,ptr g4]] w (GetsN w (λv M=>∃ a b c,v=.func (.func 199) #[] #[ptr a,ptr b,ptr c]∧M=[(a,132,#[ptr gr]),(b,3,#[.int .i64 (most:Int)]),(c,226,#[.func (.func 102) #[] #[ptr g7,ptr g4]])])):=by
 refine Sy.enter (args:=[ptr gr,.int .i64 (most:Int),.func (.func 102) #[] #[ptr g7,ptr g4]]) Tryz.func163 rfl kL ?_
 refine sC ?_
 refine sM 132 #[ptr gr] (λa=>?_)
 refine sM 3 #[.int .i64 (most:Int)] (λb=>?_)
 refine sM 226 #[.func (.func 102) #[] #[ptr g7,ptr g4]] (λc=>?_)
 refine sP .nilFunc ?_
 refine sA ?_
 refine sP (.func (.func 199) #[] #[ptr a,ptr b,ptr c])<|sp rfl ?_
 refine sG<|Sy.ret ?_
 exact Sy.retGM _ rfl (.inl (show _=_ by kernel_rfl)) (λ_ h=>h) ⟨a,b,c,rfl,rfl⟩
noncomputable def inf_ins:TypeInfo:=(Tryz.prog.info? 151).getD default
theorem info_ins:Tryz.prog.info? 151=some inf_ins:=by kernel_rfl
def HYL_ins (p:Ps α) (rep:Rdr→List Value→α→Prop) (w0:Base) (S:Blocks) (m:Nat) (s1:RS) (v:Nat×List Value) (y:YL α):Prop:=∃ x,y.x=some x∧y.l.length=v.1∧RowsOk 151 122 rep y.r y.N y.l∧rep (rdB y.N) v.2 x∧v.2.length=122∧(∀ u∈v.2,u.oneCell'=true)∧v.1<1000000
def HRL_ins (rep:Rdr→List Value→α→Prop) (y y':YL α):Prop:=∃ x r',y.x=some x∧RowsOk 151 122 rep r' y.N (y.l++[x])∧y'={ y with l:=y.l++[x],r:=r',x:=none }
theorem iter_r_ins (hm:Mono rep) (hp:GetC 61 122 ((([Value.int .i64 0]++((Z32++([Value.int .u32 0]))++(([Value.int .i64 0]++(([Value.bool false]++([Value.int .u64 0]++lPT ⟨0,0,false⟩))++([Value.slice none 0 0]++([Value.int .u64 0]++(Z32++(Cu.fws 0))))))++((Z32++([Value.slice none 0 0]++([Value.int .u32 0]++([Value.int .u32 0]++([Value.slice none 0 0]++([Value.slice none 0 0]))))))++([Value.slice none 0 0]))))))) rep p) (w0:Base) (fz:World) (gc gr gl g4 g7 a b c most:Nat) (hmost:most<1000000) (R S:Blocks) (s0:RS) (sl0:Value) (hS:∀ x∈S,x∈R) (h4:(g4,85,#[ptr gc])∈R) (h7:(g7,153,#[.func (.func 61) #[] #[]])∈R) (ha:(a,132,#[ptr gr])∈R) (hb:(b,3,#[.int .i64 (most:Int)])∈R) (hc:(c,226,#[.func (.func 102) #[] #[ptr g7,ptr g4]])∈R) (he:s0.e≤200) (hl:s0.rest.length≤70368744177664) (hv:BytR (rdC w0 S) sl0 s0.rest) (lp:Nat) (w:World) (hw:St (ib w0.world fz) w (LBL gc gr gl 23 nilS s0.e sl0 R []))
  (hY:∀ (v:Nat×List Value) (y:YL α) (W:World),(HYL_ins p rep w0 S 0 s0 v y)→St (ib w0.world fz) W (LBL gc gr gl 23 y.r y.s.e y.sl R y.N)→YieldAt Fence.wide 7 Tryz.prog lp #[.int .i64 (v.1:Int),.agg v.2.toArray] W (RoundT w0.world fz (HRL_ins rep y) (λy=>LBL gc gr gl 23 y.r y.s.e y.sl R y.N))) :
  CallsIn Fence.wide 8 Tryz.prog 199 #[.func (.yield lp) #[] #[],ptr a,ptr b,ptr c] w (DoneT w0.world fz (λy:YL α=>∃ m s1,After (varP most) s0 m s1∧s1.rest.length≤s0.rest.length∧y.l.length≤most∧InvL 151 122 rep p w0 S m s1 y.l.length y∧(y.s.e=0→y.l.length=m)) (λy=>LBL gc gr gl 23 y.r y.s.e y.sl R y.N)):=by
 refine Sy.enterI (args:=[.func (.yield lp) #[] #[],ptr a,ptr b,ptr c]) hw Tryz.func199 rfl kL ?_
 refine sC ?_
 refine sS (ptr gr) (cellC (R:=R) (mem1 ha) lbl_in rfl Tryz.underlying132)<|sS (.int .i64 (most:Int)) (cellC (R:=R) (mem1 hb) lbl_in rfl Tryz.underlying3) ?_
 refine Sy.callT (λw hw=>count_any (ib w0.world fz) gr sl0 s0 ((gc,134,#[.pointer none,ptr gr,.bool false])::(gl,23,#[.slice none 0 0])::(R++[])) S (λx h=>List.mem_cons_of_mem _ (List.mem_cons_of_mem _ (List.mem_append_left _ (hS x h)))) most hmost he hv w (hw.perm swap12)) (λu M hM=>?_)
 obtain ⟨m,s1,sl1,hA1,⟨rfl,hm1⟩,hs1e,hs1r,hs1b,rfl⟩:=hM
 refine Sy.permS (M:=LBL gc gr gl 23 nilS s1.e sl1 R []) swap12.symm ?_
 refine sp rfl ?_
 refine sA ?_
 refine sP (.int .i64 0) ?_
 refine sG<|Sy.block ?_
 refine Sy.loopT (Y:=YL α) m (λi y=>[(0,.func (.yield lp) #[] #[]),(1,ptr a),(2,ptr b),(3,ptr c),(5,.int .i64 (m:Int)),(6,.int .i64 (i:Int))]) (λi y=>LBL gc gr gl 23 y.r y.s.e y.sl R y.N) (λi y=>InvL 151 122 rep p w0 S m s1 i y) ⟨[],nilS,s1,sl1,[],none⟩ ⟨rfl,RowsOk.nil,λh=>⟨h,rfl⟩,λh=>.inl h,hs1e,Nat.le_refl _,hs1b⟩ (all_cons kR (all_cons kR (all_cons kR (all_cons kR (all_cons kR (all_cons kR all_nil)))))) (λ_ h=>h) (λi y hi hy=>?_)
 obtain ⟨l,r,s,sl,N,xo⟩:=y
 have hylen:l.length=i:=hy.len
 refine Sy.seq<|sC ?_
 obtain ⟨b1,hb1⟩:∃ z:Bool,z=decide (i<m):=⟨_,rfl⟩
 refine sp rfl<|sp rfl<|sS (.bool b1) (Quiet.pure (exec_int .lss _ _ _ .i64 _ _ _ rfl rfl rfl (int_lss _ _ _ _ _ (by rw [hb1]; exact decide_eq_decide.2 (by omega)))))<|sp rfl ?_
 cases b1
 case' false =>
  have l1:¬ i<m:=of_decide_eq_false hb1.symm
  obtain rfl:i=m:=by omega
  refine sN<|sN<|sN<|sP (.bool false) ?_
  refine sG<|sU<|Sy.exit<|Sy.then_exit<|Sy.then_exit<|Sy.in_exit ?_
  exact Sy.retI rfl (λv w h=>⟨⟨_,rfl⟩,⟨l,r,s,sl,N,xo⟩,⟨i,s1,hA1,hs1r,by show l.length≤most; omega,by rw [show (⟨l,r,s,sl,N,xo⟩:YL α).l.length=i from hylen]; exact hy,λ_=>hylen⟩,h⟩) (.inr rfl)
 have l1:i<m:=of_decide_eq_true hb1.symm
 obtain ⟨b2,hb2⟩:∃ z:Bool,z=decide (s.e=0):=⟨_,rfl⟩
 have hse:s.e≤200:=hy.e
 refine sS (ptr gr) (cellC (R:=R) (mem1 ha) lbl_in rfl Tryz.underlying132)<|sS (.int .i64 (s.e:Int)) (qg (λw hw=>err_any (ib w0.world fz) gr sl s.e [] (List.mem_cons_of_mem _ (List.mem_cons_self ..)) w hw))<|sS (.bool b2) (Quiet.pure (exec_int .eql _ _ _ .i64 _ _ _ rfl rfl rfl (int_eql _ _ _ _ _ (by rw [hb2]; exact decide_eq_decide.2 (by omega)))))<|sP (.bool b2) ?_
 refine sG ?_
 cases b2
 case' false =>
  have l2:s.e≠0:=of_decide_eq_false hb2.symm
  refine sU<|Sy.exit<|Sy.then_exit<|Sy.then_exit<|Sy.in_exit ?_
  exact Sy.retI rfl (λv w h=>⟨⟨_,rfl⟩,⟨l,r,s,sl,N,xo⟩,⟨m,s1,hA1,hs1r,by show l.length≤most; omega,by rw [show (⟨l,r,s,sl,N,xo⟩:YL α).l.length=i from hylen]; exact hy,λh=>(l2 h).elim⟩,h⟩) (.inr rfl)
 have l2:s.e=0:=of_decide_eq_true hb2.symm
 obtain ⟨hs10,hrep⟩:=hy.yes l2
 refine sT<|Sy.skip<|Sy.then_<|Sy.seq<|Sy.block<|sC ?_
 refine sS (.func (.func 102) #[] #[ptr g7,ptr g4]) (cellC (R:=R) (mem1 hc) lbl_in rfl Tryz.underlying226)<|sS (ptr gr) (cellC (R:=R) (mem1 ha) lbl_in rfl Tryz.underlying132) ?_
 refine Sy.callT (λw hw=>el_r_ins (rep:=rep) (p:=p) hm hp (ib w0.world fz) gc gr g4 g7 sl s ((gl,23,#[r.v])::(r.bl++(R++N))) S (λx h=>List.mem_cons_of_mem _ (List.mem_append_right _ (List.mem_append_left _ (hS x h)))) (List.mem_cons_of_mem _ (List.mem_append_right _ (List.mem_append_left _ h4))) (List.mem_cons_of_mem _ (List.mem_append_right _ (List.mem_append_left _ h7))) hse (Nat.le_trans (Nat.le_trans hy.rest hs1r) hl) hy.byt (ptr gr) w hw) (λu M hM=>?_)
 obtain ⟨x,s',sl',cs,N1,q1,q2,q3,q4,rfl,q5,q6,q7,rfl⟩:=hM
 obtain ⟨st1,st2⟩:=rep_step hrep l2 q1
 refine sM 151 ((([Value.int .i64 0]++((Z32++([Value.int .u32 0]))++(([Value.int .i64 0]++(([Value.bool false]++([Value.int .u64 0]++lPT ⟨0,0,false⟩))++([Value.slice none 0 0]++([Value.int .u64 0]++(Z32++(Cu.fws 0))))))++((Z32++([Value.slice none 0 0]++([Value.int .u32 0]++([Value.int .u32 0]++([Value.slice none 0 0]++([Value.slice none 0 0]))))))++([Value.slice none 0 0]))))))).toArray (λgb=>?_)
 refine Sy.permS (M:=(gb,151,((([Value.int .i64 0]++((Z32++([Value.int .u32 0]))++(([Value.int .i64 0]++(([Value.bool false]++([Value.int .u64 0]++lPT ⟨0,0,false⟩))++([Value.slice none 0 0]++([Value.int .u64 0]++(Z32++(Cu.fws 0))))))++((Z32++([Value.slice none 0 0]++([Value.int .u32 0]++([Value.int .u32 0]++([Value.slice none 0 0]++([Value.slice none 0 0]))))))++([Value.slice none 0 0]))))))).toArray)::LBL gc gr gl 23 r s'.e sl' R (N++N1)) ((List.perm_append_comm (l₂:=[(gb,151,((([Value.int .i64 0]++((Z32++([Value.int .u32 0]))++(([Value.int .i64 0]++(([Value.bool false]++([Value.int .u64 0]++lPT ⟨0,0,false⟩))++([Value.slice none 0 0]++([Value.int .u64 0]++(Z32++(Cu.fws 0))))))++((Z32++([Value.slice none 0 0]++([Value.int .u32 0]++([Value.int .u32 0]++([Value.slice none 0 0]++([Value.slice none 0 0]))))))++([Value.slice none 0 0]))))))).toArray)])).trans (List.Perm.cons _ (List.Perm.of_eq (by simp only [List.cons_append,List.append_assoc,List.nil_append]; rfl)))) ?_
 refine sw 0 rfl cs.toArray (Writes.row 151 cs 122 _ _ rfl kR kR kR q2 (by kernel_rfl) q3) ?_
 refine Sy.nil<|Sy.then_ ?_
 have hR2:RowsOk 151 122 rep r (N++N1) l:=RowsOk.more (rep:=rep) hm hy.rows (λb h=>List.mem_append_left _ h)
 have hx2:rep (rdB (N++N1)) cs x:=hm (rdB_le λb h=>List.mem_append_right _ h) q4
 have drop1:∀ {w:World},St (ib w0.world fz) w ((gb,151,cs.toArray)::LBL gc gr gl 23 r s'.e sl' R (N++N1))→St (ib w0.world fz) w (LBL gc gr gl 23 r s'.e sl' R (N++N1)):=λh=>h.less (List.sublist_cons_self _ _)
 obtain ⟨b3,hb3⟩:∃ z:Bool,z=decide (s'.e≠0):=⟨_,rfl⟩
 have inl:∀ b∈R,b∈(gb,151,cs.toArray)::LBL gc gr gl 23 r s'.e sl' R (N++N1):=λb h=>List.mem_cons_of_mem _ (lbl_in b h)
 refine Sy.seq ?_
 cases b3
 case' true =>
  have l3:s'.e≠0:=of_decide_eq_true hb3.symm
  refine Sy.region ?_
  refine sS (ptr gr) (cellC (R:=R) (mem1 ha) inl rfl Tryz.underlying132)<|sS (.int .i64 (s'.e:Int)) (qg (λw hw=>err_any (ib w0.world fz) gr sl' s'.e [] (List.mem_cons_of_mem _ (List.mem_cons_of_mem _ (List.mem_cons_self ..))) w hw))<|sS (.bool true) (Quiet.pure (exec_int .neq _ _ _ .i64 _ _ _ rfl rfl rfl (int_neq _ _ _ _ _ (by rw [hb3]; exact decide_eq_decide.2 (by omega)))))<|sp rfl<|sN<|sN<|sN<|sN<|sN<|sP (.bool true) ?_
  refine sG<|sT<|Sy.ret<|Sy.in_ret<|Sy.then_ret<|Sy.then_ret<|Sy.in_ret ?_
  exact Sy.retI rfl (λv w h=>⟨⟨_,rfl⟩,⟨l,r,s',sl',N++N1,none⟩,⟨m,s1,hA1,hs1r,by show l.length≤most; omega,⟨rfl,hR2,λh=>(l3 h).elim,λ_=>.inr (st2 l3 m l1),q5,Nat.le_trans q6 hy.rest,q7⟩,λh=>(l3 h).elim⟩,drop1 h⟩) (.inl rfl)
 have l3:s'.e=0:=Decidable.of_not_not (of_decide_eq_false hb3.symm)
 refine Sy.regionI 7 (by rintro ⟨_,_,⟨_,hv⟩,_⟩; cases hv) kR ?_
 refine sS (ptr gr) (cellC (R:=R) (mem1 ha) inl rfl Tryz.underlying132)<|sS (.int .i64 (s'.e:Int)) (qg (λw hw=>err_any (ib w0.world fz) gr sl' s'.e [] (List.mem_cons_of_mem _ (List.mem_cons_of_mem _ (List.mem_cons_self ..))) w hw))<|sS (.bool false) (Quiet.pure (exec_int .neq _ _ _ .i64 _ _ _ rfl rfl rfl (int_neq _ _ _ _ _ (by rw [hb3]; exact decide_eq_decide.2 (by omega)))))<|sp rfl<|sp rfl<|sp rfl<|sS (.agg cs.toArray) (Quiet.mid 0 gb 0 122 151 151 cs cs _ _ rfl kR rfl Tryz.underlying151 rfl kR (by rw [List.drop_zero,List.take_of_length_le (by omega)]) (by omega)) ?_
 refine Sy.nil ?_
 refine Sy.yieldI (HR:=HRL_ins rep ⟨l,r,s',sl',N++N1,some x⟩) (LR:=λy=>LBL gc gr gl 23 y.r y.s.e y.sl R y.N) rfl (by rintro ⟨_,_,⟨_,hv⟩,_⟩; cases hv) kR kR lp #[.int .i64 (i:Int),.agg cs.toArray] kF (λw hw=>hY (i,cs) ⟨l,r,s',sl',N++N1,some x⟩ w ⟨x,rfl,hylen,hR2,hx2,q2,q3,by show i<1000000; omega⟩ (drop1 hw)) (λy' hy'=>?_)
 obtain ⟨x',r',hx',hr',rfl⟩:=hy'
 obtain rfl:x=x':=by injection hx'
 refine sP (.bool false)<|sP (.bool false) ?_
 refine sG<|sU<|Sy.skip<|Sy.in_<|Sy.then_<|Sy.region ?_
 refine sp rfl<|sS (.int .i64 ((i+1:Nat):Int)) (Quiet.pure (exec_int .add _ _ _ .i64 _ _ _ rfl rfl rfl (int_add _ _ _ _ _ ((wrap_i64 (by omega) (by omega)).trans (by omega)))))<|sp rfl ?_
 refine Sy.nil ?_
 exact Sy.againT ⟨l++[x],r',s',sl',N++N1,none⟩ l1 ⟨by simp [hylen],hr',λ_=>⟨hs10,st1 l3⟩,λh=>(h l3).elim,q5,Nat.le_trans q6 hy.rest,q7⟩ (all_cons kR (all_cons kR (all_cons kR (all_cons kR (all_cons kR (all_cons kR all_nil)))))) (λw h=>h)
theorem list9_r_ins (hm:Mono rep) (hp:GetC 61 122 ((([Value.int .i64 0]++((Z32++([Value.int .u32 0]))++(([Value.int .i64 0]++(([Value.bool false]++([Value.int .u64 0]++lPT ⟨0,0,false⟩))++([Value.slice none 0 0]++([Value.int .u64 0]++(Z32++(Cu.fws 0))))))++((Z32++([Value.slice none 0 0]++([Value.int .u32 0]++([Value.int .u32 0]++([Value.slice none 0 0]++([Value.slice none 0 0]))))))++([Value.slice none 0 0]))))))) rep p) (w0:Base) (gc gr g4 g7 most:Nat) (hmost:most<1000000) (sl0:Value) (s0:RS) (R S:Blocks) (hS:∀ x∈S,x∈R) (h4:(g4,85,#[ptr gc])∈R) (h7:(g7,153,#[.func (.func 61) #[] #[]])∈R) (he:s0.e≤200) (hl:s0.rest.length≤70368744177664) (hv:BytR (rdC w0 S) sl0 s0.rest) (w:World) (hw:St w0 w (CRN gc gr sl0 s0.e R)) :
  Calls Tryz.prog 101 #[ptr gr,.int .i64 (most:Int),.func (.func 102) #[] #[ptr g7,ptr g4]] w (Turns w0 (RdL 122 rep (listP most p) w0 gc gr s0 R S)):=by
 refine Sy.enterTM (args:=[ptr gr,.int .i64 (most:Int),.func (.func 102) #[] #[ptr g7,ptr g4]]) hw Tryz.func101 rfl kL ?_
 refine sC ?_
 refine sP (.slice none 0 0) ?_
 refine sA ?_
 refine sM 23 #[.slice none 0 0] (λgl=>?_)
 refine sG<|Sy.seq<|sC ?_
 refine sp rfl<|sp rfl<|sp rfl ?_
 refine Sy.callN kR 163 #[ptr gr,.int .i64 (most:Int),.func (.func 102) #[] #[ptr g7,ptr g4]] kF _ (λw _=>items_r_ins w gr most g4 g7) (λv M hM=>?_)
 obtain ⟨a,b,c,rfl,rfl⟩:=hM
 refine Sy.nil<|Sy.then_<|Sy.block ?_
 obtain ⟨R1,hR1⟩:∃ R1,R1=R++[(a,132,#[ptr gr]),(b,3,#[.int .i64 (most:Int)]),(c,226,#[.func (.func 102) #[] #[ptr g7,ptr g4]])]:=⟨_,rfl⟩
 refine Sy.permC (M:=LBL gc gr gl 23 nilS s0.e sl0 R1 []) (by rw [hR1]; exact permLB) ?_
 have mR:∀ x∈R,x∈R1:=λx hx=>by rw [hR1]; exact List.mem_append_left _ hx
 have ma:(a,132,#[ptr gr])∈R1:=by rw [hR1]; simp
 have mb:(b,3,#[.int .i64 (most:Int)])∈R1:=by rw [hR1]; simp
 have mc:(c,226,#[.func (.func 102) #[] #[ptr g7,ptr g4]])∈R1:=by rw [hR1]; simp
 refine Sy.rangeT (α:=Nat×List Value) (Y:=YL α) (Z:=Nat) 199 #[ptr a,ptr b,ptr c] kR kR (enters_of Tryz.func199 kR rfl) (λv=>#[.int .i64 (v.1:Int),.agg v.2.toArray]) (λ_=>rfl) (by decide)
  (HYL_ins p rep w0 S 0 s0) (λ_ y=>LBL gc gr gl 23 y.r y.s.e y.sl R1 y.N) (λ_ _ z=>[(7,ptr gl),(9,ptr z)]) (λv y z=>(z,151,v.2.toArray)::LBL gc gr gl 23 y.r y.s.e y.sl R1 y.N) (λ_ y=>HRL_ins rep y) (λy=>LBL gc gr gl 23 y.r y.s.e y.sl R1 y.N)
  (λy:YL α=>∃ m s1,After (varP most) s0 m s1∧s1.rest.length≤s0.rest.length∧y.l.length≤most∧InvL 151 122 rep p w0 S m s1 y.l.length y∧(y.s.e=0→y.l.length=m)) (λy=>LBL gc gr gl 23 y.r y.s.e y.sl R1 y.N) ?_ ?_ ?_ ?_
 ·exact λlp fz w hw hY=>iter_r_ins (rep:=rep) (p:=p) hm hp w0 fz gc gr gl g4 g7 a b c most hmost R1 S s0 sl0 (λx h=>mR x (hS x h)) (mR _ h4) (mR _ h7) ma mb mc he hl hv lp w hw hY
 ·rintro lp fz ⟨i,cs⟩ ⟨l,r,s,sl,N,xo⟩ ⟨x,rfl,_,_,_,c1,c2,_⟩
  dsimp only at c1 c2 ⊢
  refine Sy.regionR (by rintro ⟨_,_,h⟩; exact h) kR ⟨_,rfl⟩ ?_
  refine sM 151 ((([Value.int .i64 0]++((Z32++([Value.int .u32 0]))++(([Value.int .i64 0]++(([Value.bool false]++([Value.int .u64 0]++lPT ⟨0,0,false⟩))++([Value.slice none 0 0]++([Value.int .u64 0]++(Z32++(Cu.fws 0))))))++((Z32++([Value.slice none 0 0]++([Value.int .u32 0]++([Value.int .u32 0]++([Value.slice none 0 0]++([Value.slice none 0 0]))))))++([Value.slice none 0 0]))))))).toArray (λz=>?_)
  refine Sy.permS (M:=(z,151,((([Value.int .i64 0]++((Z32++([Value.int .u32 0]))++(([Value.int .i64 0]++(([Value.bool false]++([Value.int .u64 0]++lPT ⟨0,0,false⟩))++([Value.slice none 0 0]++([Value.int .u64 0]++(Z32++(Cu.fws 0))))))++((Z32++([Value.slice none 0 0]++([Value.int .u32 0]++([Value.int .u32 0]++([Value.slice none 0 0]++([Value.slice none 0 0]))))))++([Value.slice none 0 0]))))))).toArray)::LBL gc gr gl 23 r s.e sl R1 N) (List.perm_append_comm (l₂:=[(z,151,((([Value.int .i64 0]++((Z32++([Value.int .u32 0]))++(([Value.int .i64 0]++(([Value.bool false]++([Value.int .u64 0]++lPT ⟨0,0,false⟩))++([Value.slice none 0 0]++([Value.int .u64 0]++(Z32++(Cu.fws 0))))))++((Z32++([Value.slice none 0 0]++([Value.int .u32 0]++([Value.int .u32 0]++([Value.slice none 0 0]++([Value.slice none 0 0]))))))++([Value.slice none 0 0]))))))).toArray)])) ?_
  refine sw 0 rfl cs.toArray (Writes.row 151 cs 122 _ _ rfl kR kR kR c1 (by kernel_rfl) c2) ?_
  refine Sy.nil ?_
  exact apZ z (all_cons kR (all_cons kR all_nil)) (λ_ h=>h)
 ·rintro lp fz ⟨i,cs⟩ ⟨l,r,s,sl,N,xo⟩ z ⟨x,rfl,hli,⟨xs,x1,x2,x3⟩,hx,c1,c2,hi⟩
  dsimp only at c1 c2 hli x1 x2 x3 hx hi ⊢
  refine Sy.block ?_
  refine Sy.regionR (by rintro ⟨_,_,h⟩; exact h) kR ⟨_,rfl⟩ ?_
  refine sS r.v (qc 3 0 rfl rfl Tryz.underlying23)<|sS (.agg cs.toArray) (Quiet.mid 0 z 0 122 151 151 cs cs _ _ rfl kR rfl Tryz.underlying151 rfl kR (by rw [List.drop_zero,List.take_of_length_le (by omega)]) (by omega)) ?_
  refine Sy.make kR 151 cs.toArray (λg=>.slice (some ⟨g,0,none⟩) 1 1) (Makes.one 23 151 _ _ 122 _ cs rfl kR Tryz.underlying23 info_ins rfl rfl c1 (by decide) (by decide)) (λg8=>?_)
  refine Sy.permS (M:=[(z,151,cs.toArray),(gc,134,#[.pointer none,ptr gr,.bool false]),(gr,253,#[sl,.int .i64 (s.e:Int)]),(gl,23,#[r.v]),(g8,151,cs.toArray)]++(r.bl++(R1++N))) (Sy.flat_perm (ls:=[[(z,151,cs.toArray),(gc,134,#[.pointer none,ptr gr,.bool false]),(gr,253,#[sl,.int .i64 (s.e:Int)]),(gl,23,#[r.v])],r.bl++(R1++N),[(g8,151,cs.toArray)]]) (ms:=[[(z,151,cs.toArray),(gc,134,#[.pointer none,ptr gr,.bool false]),(gr,253,#[sl,.int .i64 (s.e:Int)]),(gl,23,#[r.v])],[(g8,151,cs.toArray)],r.bl++(R1++N)]) [0,2,1] (by kernel_rfl) (by rfl) (by simp) (by simp)) ?_
  refine Sy.appendR kR 23 151 _ _ 122 376 Tryz.underlying23 info_ins rfl rfl rfl rfl (by decide) _ _ rfl x1 kR cs c1 c2 4 g8 151 kR kR (by omega) (by simp only [maxLen]; omega) (λr' hr'=>?_)
  refine sw 3 rfl #[r'.v] (Writes.one 0 23 r'.v _ _ rfl kR kR kR hr'.cells.1 hr'.cells.2 Nat.zero_lt_one kR) ?_
  refine Sy.setT ?_
  refine Sy.nil<|Sy.in_ ?_
  exact bpZ ⟨l++[x],r',s,sl,N,none⟩ ⟨x,r',rfl,RowsOk.add (rep:=rep) x2 x3 hr' hx,rfl⟩ (λw h=>Sy.St.parts (ls:=[[(z,151,cs.toArray)],[(gc,134,#[.pointer none,ptr gr,.bool false]),(gr,253,#[sl,.int .i64 (s.e:Int)]),(gl,23,#[r'.v])],[(g8,151,cs.toArray)],r'.bl++(R1++N)]) (ms:=[[(gc,134,#[.pointer none,ptr gr,.bool false]),(gr,253,#[sl,.int .i64 (s.e:Int)]),(gl,23,#[r'.v])],r'.bl++(R1++N)]) [[(z,151,cs.toArray)],[(g8,151,cs.toArray)]] [1,3,0,2] (by kernel_rfl) (by rfl) (by simp) (by simp) h)
 ·rintro D fz ⟨l,r,s,sl,N,xo⟩ ⟨m,s1,hA1,hs1,hlm,hI,hdn⟩ hD hD2 hmk h0
  dsimp only at hI hdn hlm ⊢
  have hse:s.e≤200:=hI.e
  have hrest:s.rest.length≤s0.rest.length:=Nat.le_trans hI.rest hs1
  refine Sy.in_<|Sy.then_<|Sy.seq<|sC ?_
  obtain ⟨b1,hb1⟩:∃ z:Bool,z=decide (s.e≠0):=⟨_,rfl⟩
  refine sp rfl<|sS (.int .i64 (s.e:Int)) (qg (λw hw=>err_any (ab w0.world fz D) gr sl s.e [] (List.mem_cons_of_mem _ (List.mem_cons_self ..)) w hw))<|sS (.bool b1) (Quiet.pure (exec_int .neq _ _ _ .i64 _ _ _ rfl rfl rfl (int_neq _ _ _ _ _ (by rw [hb1]; exact decide_eq_decide.2 (by omega))))) ?_
  refine sG ?_
  cases b1
  ·have l1:s.e=0:=Decidable.of_not_not (of_decide_eq_false hb1.symm)
   obtain ⟨z1,z2⟩:=hI.yes l1
   rw [hdn l1] at z2
   refine sU<|Sy.skip<|sB ?_
   refine sS r.v (qc 2 0 rfl rfl Tryz.underlying23)<|sp rfl ?_
   refine sG<|Sy.ret ?_
   refine Sy.retTM1 (b0:=w0) (M:=CRN gc gr sl s.e (R++(N++r.bl))) rfl (.inl (show _=_ by kernel_rfl)) (λw h=>Sy.St.parts (ls:=[[(gc,134,#[.pointer none,ptr gr,.bool false]),(gr,253,#[sl,.int .i64 (s.e:Int)])],[(gl,23,#[r.v])],r.bl,R,[(a,132,#[ptr gr]),(b,3,#[.int .i64 (most:Int)]),(c,226,#[.func (.func 102) #[] #[ptr g7,ptr g4]])],N]) (ms:=[[(gc,134,#[.pointer none,ptr gr,.bool false]),(gr,253,#[sl,.int .i64 (s.e:Int)])],R,N,r.bl]) [[(gl,23,#[r.v])],[(a,132,#[ptr gr]),(b,3,#[.int .i64 (most:Int)]),(c,226,#[.func (.func 102) #[] #[ptr g7,ptr g4]])]] [0,3,5,2,1,4] (by kernel_rfl) (by rfl) (by rw [hR1]; simp) (by simp) h) ⟨l,s,sl,N++r.bl,hA1.bind ⟨λh=>(h z1).elim,λy q _ hy=>?_,λ_ hy=>?_⟩,RowsOk.lst (rep:=rep) hm hI.rows,hse,hrest,hI.byt,rfl⟩ hD hD2 hmk h0.out
   ·rw [z2] at hy
    cases hy
    exact ⟨rfl,by rw [← l1]⟩
   ·rw [z2] at hy; cases hy
  ·have l1:s.e≠0:=of_decide_eq_true hb1.symm
   refine sT<|sC ?_
   refine sP (.slice none 0 0) ?_
   refine sG<|Sy.ret<|Sy.then_ret ?_
   refine Sy.retTM1 (b0:=w0) (M:=CRN gc gr sl s.e (R++[])) rfl (.inl (show _=_ by kernel_rfl)) (λw h=>Sy.St.parts (ls:=[[(gc,134,#[.pointer none,ptr gr,.bool false]),(gr,253,#[sl,.int .i64 (s.e:Int)])],[(gl,23,#[r.v])],r.bl,R,[(a,132,#[ptr gr]),(b,3,#[.int .i64 (most:Int)]),(c,226,#[.func (.func 102) #[] #[ptr g7,ptr g4]])],N]) (ms:=[[(gc,134,#[.pointer none,ptr gr,.bool false]),(gr,253,#[sl,.int .i64 (s.e:Int)])],R]) [[(gl,23,#[r.v])],r.bl,[(a,132,#[ptr gr]),(b,3,#[.int .i64 (most:Int)]),(c,226,#[.func (.func 102) #[] #[ptr g7,ptr g4]])],N] [0,3,1,2,4,5] (by kernel_rfl) (by rfl) (by rw [hR1]; simp) (by simp) h) ⟨[],s,sl,[],hA1.bind ⟨λ_=>l1,λy q h1 hy=>?_,λ_ _=>l1⟩,⟨none,0,0,rfl,rfl,Nat.le_refl _,Nat.zero_le _,λh=>(h rfl).elim⟩,hse,hrest,hI.byt,rfl⟩ hD hD2 hmk h0.out
   rcases hI.no l1 with h | h
   ·exact (h h1).elim
   ·rw [h] at hy; cases hy
theorem list_r_ins (hm:Mono rep) (hp:GetC 61 122 ((([Value.int .i64 0]++((Z32++([Value.int .u32 0]))++(([Value.int .i64 0]++(([Value.bool false]++([Value.int .u64 0]++lPT ⟨0,0,false⟩))++([Value.slice none 0 0]++([Value.int .u64 0]++(Z32++(Cu.fws 0))))))++((Z32++([Value.slice none 0 0]++([Value.int .u32 0]++([Value.int .u32 0]++([Value.slice none 0 0]++([Value.slice none 0 0]))))))++([Value.slice none 0 0]))))))) rep p) (w0:Base) (gc gr gx f most:Nat) (hmost:most<1000000) (tx:TypeId) (A Z:List Value) (sl:Value) (s:RS) (R S:Blocks) (hS:∀ b∈S,b∈R) (hA:A.length=f) (he:s.e≤200) (hl:s.rest.length≤70368744177664) (hv:BytR (rdC w0 S) sl s.rest) (w:World) (hw:St w0 w (CRS gc gr gx tx (A++([Value.slice none 0 0]++Z)) sl s.e R)) :
  Calls Tryz.prog 60 #[ptr gc,.pointer (some ⟨gx,f,none⟩),.int .i64 (most:Int),.func (.func 61) #[] #[]] w (Turns w0 (RdT 1 (repL 122 rep) (listP most p) w0 gc gr gx tx A Z s R S)):=by
 refine Sy.enterT (args:=[ptr gc,.pointer (some ⟨gx,f,none⟩),.int .i64 (most:Int),.func (.func 61) #[] #[]]) hw Tryz.func60 rfl kL ?_
 refine sC ?_
 refine sM 85 #[ptr gc] (λg4=>?_)
 refine sM 153 #[.func (.func 61) #[] #[]] (λg7=>?_)
 obtain ⟨R1,hR1⟩:∃ R1,R1=R++([(g4,85,#[ptr gc])]++[(g7,153,#[.func (.func 61) #[] #[]])]):=⟨_,rfl⟩
 refine Sy.permS (M:=CRS gc gr gx tx (A++([Value.slice none 0 0]++Z)) sl s.e R1) (List.Perm.of_eq (by rw [hR1]; simp)) ?_
 have mR:∀ x∈R,x∈R1:=λx hx=>by rw [hR1]; exact List.mem_append_left _ hx
 have m4:(g4,85,#[ptr gc])∈R1:=by rw [hR1]; simp
 have m7:(g7,153,#[.func (.func 61) #[] #[]])∈R1:=by rw [hR1]; simp
 refine sG<|Sy.seq<|sC ?_
 refine sS (ptr gc) (cellC (R:=R1) (mem1 m4) inCR rfl Tryz.underlying85)<|sS (.bool true) (qg (λw hw=>reads_r w0.inn gc gr _ _ (List.mem_cons_self ..) w hw)) ?_
 refine sG<|sT<|sC ?_
 refine sp rfl<|sS (ptr gc) (cellC (R:=R1) (mem1 m4) inCR rfl Tryz.underlying85)<|sp rfl<|sP (.pointer (some ⟨gc,1,none⟩))<|sS (ptr gr) (qc 0 1 rfl rfl Tryz.underlying132)<|sp rfl<|sP (.func (.func 102) #[] #[ptr g7,ptr g4]) ?_
 refine Sy.callT (λw hw=>list9_r_ins (rep:=rep) (p:=p) hm hp w0.inn gc gr g4 g7 most hmost sl s ((gx,tx,(A++([Value.slice none 0 0]++Z)).toArray)::R1) S (λx h=>List.mem_cons_of_mem _ (mR x (hS x h))) (List.mem_cons_of_mem _ m4) (List.mem_cons_of_mem _ m7) he hl hv w (hw.perm swap23)) (λv M hM=>?_)
 obtain ⟨l,s',sl',N,q1,q2,q3,q4,q5,rfl⟩:=hM
 refine Sy.permS (M:=CRS gc gr gx tx (A++([Value.slice none 0 0]++Z)) sl' s'.e (R1++N)) swap23 ?_
 refine sp rfl<|sw 1 rfl (A++([v]++Z)).toArray (Writes.one f 23 v _ _ rfl kR kR kR q2.cells.1 q2.cells.2 (by rw [List.size_toArray,List.length_append,hA]; exact Nat.lt_add_of_pos_right (Nat.succ_pos _)) (set_mid hA)) ?_
 refine sG<|Sy.ret<|Sy.then_ret ?_
 exact Sy.retT0 rfl (CRS gc gr gx tx (A++([v]++Z)) sl' s'.e (R++N)) (λw h=>Sy.St.parts (ls:=[[(gc,134,#[.pointer none,ptr gr,.bool false]),(gx,tx,(A++([v]++Z)).toArray),(gr,253,#[sl',.int .i64 (s'.e:Int)])],R,[(g4,85,#[ptr gc])]++[(g7,153,#[.func (.func 61) #[] #[]])],N]) (ms:=[[(gc,134,#[.pointer none,ptr gr,.bool false]),(gx,tx,(A++([v]++Z)).toArray),(gr,253,#[sl',.int .i64 (s'.e:Int)])],R,N]) [[(g4,85,#[ptr gc])]++[(g7,153,#[.func (.func 61) #[] #[]])]] [0,1,3,2] (by kernel_rfl) (by rfl) (by rw [hR1]; simp) (by simp) h) (λ_=>⟨l,s',sl',[v],N,q1,rfl,λu hu=>by rw [List.mem_singleton.1 hu]; exact q2.cells.2,⟨v,rfl,q2⟩,q3,q4,q5,rfl⟩)
end
end Wr
end
section
namespace Wr
open Go.RowKit Sy
set_option maxRecDepth 100000
set_option maxHeartbeats 4000000
theorem tx_w:PutC 28 3 repTR okTR encTR wtTR:=λw0 gc gw gx f bad s R b cs x hx _ hc hb hl w hw=>by
 obtain ⟨af,is,os⟩:=x
 obtain ⟨vi,vo,rfl,h1,h2,h3⟩:=hx
 dsimp only at h1 h2 h3
 unfold wtTR at hl
 dsimp only at hl
 have c0:XAt (rdC w0 R) gx f ([.int .u64 (af:Int)]++([vi]++[vo])):=hc
 have c1:XAt (rdC w0 R) gx (f+1) ([vi]++[vo]):=c0.right (n:=1) rfl
 have c2:XAt (rdC w0 R) gx (f+2) [vo]:=c1.right (n:=1) rfl
 refine Sy.enterT (args:=[ptr gc,.pointer (some ⟨gx,f,none⟩)]) hw Tryz.func28 rfl kL ?_
 refine sC ?_
 refine sp rfl<|sp rfl<|sp rfl<|sP (.pointer (some ⟨gx,f,none⟩)) ?_
 refine Sy.callT (λw hw=>long_w w0.inn gc gw gx f bad s R b af h1 c0.one hb (by omega) w hw) (λu M hM=>?_)
 obtain ⟨s1,bad1,b1,q1,p1,rfl⟩:=hM
 have l1:b1.length≤b.length+8:=q1.len
 refine sA ?_
 refine sp rfl<|sp rfl<|sp rfl<|sP (.pointer (some ⟨gx,f+1,none⟩)) ?_
 refine Sy.callT (λw hw=>list_w_ins (rep:=repIN) monoIN in_w w0.inn gc gw gx (f+1) 16 (by decide) bad1 s1 R b1 vi is h2 c1.one p1 (by omega) w hw) (λu M hM=>?_)
 obtain ⟨s2,bad2,b2,q2,p2,rfl⟩:=hM
 have l2:b2.length≤b1.length+(9+(is.map wtIN).sum):=q2.len
 refine Sy.nil<|Sy.then_<|Sy.region ?_
 refine sp rfl<|sp rfl<|sp rfl<|sP (.pointer (some ⟨gx,f+2,none⟩)) ?_
 refine Sy.callT (λw hw=>list_w_ous (rep:=repOU) monoOU out_w w0.inn gc gw gx (f+2) 16 (by decide) bad2 s2 R b2 vo os h3 c2.one p2 (by omega) w hw) (λu M hM=>?_)
 obtain ⟨s3,bad3,b3,q3,p3,rfl⟩:=hM
 have l3:b3.length≤b2.length+(9+(os.map wtOU).sum):=q3.len
 refine Sy.nil ?_
 have q:=q1.then_ (q2.then_ q3)
 simp only [Bool.true_and] at q
 exact Sy.retT0 rfl (CWS gc gw bad3 s3 R) (λ_ h=>h) (λ_=>⟨s3,bad3,b3,q,p3,rfl⟩)
theorem tx_r:GetC 28 3 ([Value.int .u64 0]++([Value.slice none 0 0]++([Value.slice none 0 0]))) repTR rdTR:=λw0 gc gr gx f tx A Z sl s R S hS hA he hl hv w hw=>by
 refine Sy.enterT (args:=[ptr gc,.pointer (some ⟨gx,f,none⟩)]) hw Tryz.func28 rfl kL ?_
 refine sC ?_
 refine sp rfl<|sp rfl<|sp rfl<|sP (.pointer (some ⟨gx,f,none⟩)) ?_
 refine Sy.callT (λw hw=>long_r w0.inn gc gr gx f tx (A) ([Value.slice none 0 0]++([Value.slice none 0 0]++Z)) sl s (R) S hS hA he (hl) hv w (by simpa only [List.append_assoc] using hw)) (λu M hM=>?_)
 obtain ⟨x1,s1,sl1,cs1,N1,a1,n1,o1,⟨rfl,r1⟩,e1,h1,y1,rfl⟩:=hM
 have g1:s1.rest.length≤s.rest.length:=h1
 have A1:(A++[Value.int .u64 (x1:Int)]).length=f+1:=by rw [List.length_append,hA,n1]
 refine sA ?_
 refine sp rfl<|sp rfl<|sp rfl<|sP (.pointer (some ⟨gx,f+1,none⟩)) ?_
 refine Sy.callT (λw hw=>list_r_ins (rep:=repIN) (p:=rdIN) monoIN in_r w0.inn gc gr gx (f+1) 16 (by decide) tx (A++[Value.int .u64 (x1:Int)]) ([Value.slice none 0 0]++Z) sl1 s1 (R++N1) S (λb h=>List.mem_append_left _ (hS b h)) A1 e1 (Nat.le_trans g1 hl) y1 w (by have e:A++[Value.int .u64 (x1:Int)]++([Value.slice none 0 0]++([Value.slice none 0 0]++Z))=A++([Value.int .u64 (x1:Int)]++([Value.slice none 0 0]++([Value.slice none 0 0]++Z))):=List.append_assoc ..; rw [e]; exact hw)) (λu M hM=>?_)
 obtain ⟨x2,s2,sl2,cs2,N2,a2,n2,o2,⟨v2,rfl,r2⟩,e2,h2,y2,rfl⟩:=hM
 have g2:s2.rest.length≤s.rest.length:=Nat.le_trans h2 g1
 have A2:(A++[Value.int .u64 (x1:Int)]++[v2]).length=f+2:=by rw [List.length_append,A1,n2]
 refine Sy.nil<|Sy.then_<|Sy.region ?_
 refine sp rfl<|sp rfl<|sp rfl<|sP (.pointer (some ⟨gx,f+2,none⟩)) ?_
 refine Sy.callT (λw hw=>list_r_ous (rep:=repOU) (p:=rdOU) monoOU out_r w0.inn gc gr gx (f+2) 16 (by decide) tx (A++[Value.int .u64 (x1:Int)]++[v2]) (Z) sl2 s2 (R++N1++N2) S (λb h=>List.mem_append_left _ (List.mem_append_left _ (hS b h))) A2 e2 (Nat.le_trans g2 hl) y2 w (by have e:A++[Value.int .u64 (x1:Int)]++[v2]++([Value.slice none 0 0]++(Z))=A++[Value.int .u64 (x1:Int)]++([v2]++([Value.slice none 0 0]++(Z))):=List.append_assoc ..; rw [e]; exact hw)) (λu M hM=>?_)
 obtain ⟨x3,s3,sl3,cs3,N3,a3,n3,o3,⟨v3,rfl,r3⟩,e3,h3,y3,rfl⟩:=hM
 have g3:s3.rest.length≤s.rest.length:=Nat.le_trans h3 g2
 have A3:(A++[Value.int .u64 (x1:Int)]++[v2]++[v3]).length=f+3:=by rw [List.length_append,A2,n3]
 refine Sy.nil ?_
 have hAf:After rdTR s ⟨x1,x2,x3⟩ s3:=a1.bind (a2.bind (a3.bind (After.ret _ _)))
 have hLn:([Value.int .u64 (x1:Int)]++([v2]++([v3]))).length=3:=by rfl
 have hOn:∀ u∈([Value.int .u64 (x1:Int)]++([v2]++([v3]))),u.oneCell'=true:=ones_app o1 (ones_app o2 (o3))
 have hRp:repTR (rdB (N1++(N2++(N3)))) ([Value.int .u64 (x1:Int)]++([v2]++([v3]))) ⟨x1,x2,x3⟩:=⟨v2,v3,rfl,r1,LstR.le (rep:=repIN) monoIN (rdB_le λb h=>by simp [h]) r2,LstR.le (rep:=repOU) monoOU (rdB_le λb h=>by simp [h]) r3⟩
 exact Sy.retT0 rfl (CRS gc gr gx tx (A++(([Value.int .u64 (x1:Int)]++([v2]++([v3])))++Z)) sl3 s3.e (R++(N1++(N2++(N3))))) (λ_ h=>by simpa only [List.append_assoc,List.cons_append,List.nil_append] using h) (λ_=>⟨_,s3,sl3,_,_,hAf,hLn,hOn,hRp,e3,g3,y3,rfl⟩)
theorem signed_w:PutC 79 65 repSG okSG encSG (λ_=>65):=λw0 gc gw gx f bad s R b cs x hx _ hc hb hl w hw=>by
 obtain ⟨k,sg⟩:=x
 obtain ⟨rfl,h1⟩:=hx
 dsimp only at h1 hl
 have c0:XAt (rdC w0 R) gx f ([.int .i64 k]++sg.map bv):=hc
 have c1:XAt (rdC w0 R) gx (f+1) (sg.map bv):=c0.right (n:=1) rfl
 refine Sy.enterT (args:=[ptr gc,.pointer (some ⟨gx,f,none⟩)]) hw Tryz.func79 rfl kL ?_
 refine sC ?_
 refine sp rfl<|sp rfl<|sp rfl<|sP (.pointer (some ⟨gx,f,none⟩)) ?_
 refine Sy.callT (λw hw=>octet_w w0.inn gc gw gx f bad s R b k c0.one hb (by omega) w hw) (λu M hM=>?_)
 obtain ⟨s1,bad1,b1,q1,p1,rfl⟩:=hM
 have l1:b1.length≤b.length+1:=q1.len
 refine Sy.nil<|Sy.then_<|Sy.region ?_
 refine sp rfl<|sp rfl<|sp rfl<|sP (.pointer (some ⟨gx,f+1,none⟩))<|sP (.slice (some ⟨gx,f+1,none⟩) 64 64) ?_
 refine Sy.callT (λw hw=>raw_w w0.inn gc gw bad1 s1 R b1 sg _ (c1.byt h1 (by decide)) p1 (by omega) w hw) (λu M hM=>?_)
 obtain ⟨s2,bad2,b2,q2,p2,rfl⟩:=hM
 have l2:b2.length≤b1.length+sg.length:=q2.len
 refine Sy.nil ?_
 rw [h1] at q2
 have q:=q1.then_ q2
 simp only [Bool.and_true] at q
 exact Sy.retT0 rfl (CWS gc gw bad2 s2 R) (λ_ h=>h) (λ_=>⟨s2,bad2,b2,q,p2,rfl⟩)
theorem signed_r:GetC 79 65 ([Value.int .i64 0]++(((List.replicate 64 (0:UInt8)).map bv))) repSG rdSG:=λw0 gc gr gx f tx A Z sl s R S hS hA he hl hv w hw=>by
 refine Sy.enterT (args:=[ptr gc,.pointer (some ⟨gx,f,none⟩)]) hw Tryz.func79 rfl kL ?_
 refine sC ?_
 refine sp rfl<|sp rfl<|sp rfl<|sP (.pointer (some ⟨gx,f,none⟩)) ?_
 refine Sy.callT (λw hw=>octet_r w0.inn gc gr gx f tx (A) (((List.replicate 64 (0:UInt8)).map bv)++Z) sl s (R) S hS hA he (hl) hv w (by simpa only [List.append_assoc] using hw)) (λu M hM=>?_)
 obtain ⟨x1,s1,sl1,cs1,N1,a1,n1,o1,rfl,e1,h1,y1,rfl⟩:=hM
 have g1:s1.rest.length≤s.rest.length:=h1
 have A1:(A++[Value.int .i64 x1]).length=f+1:=by rw [List.length_append,hA,n1]
 refine Sy.nil<|Sy.then_<|Sy.region ?_
 refine sp rfl<|sp rfl<|sp rfl<|sP (.pointer (some ⟨gx,f+1,none⟩))<|sP (.slice (some ⟨gx,f+1,none⟩) 64 64) ?_
 refine Sy.callT (λw hw=>rawN_r 64 (by decide) (by decide) w0.inn gc gr gx (f+1) tx (A++[Value.int .i64 x1]) (Z) (List.replicate 64 0) (by decide) sl1 s1 (R++N1) S (λb h=>List.mem_append_left _ (hS b h)) A1 e1 (Nat.le_trans g1 hl) y1 w (by have e:A++[Value.int .i64 x1]++(((List.replicate 64 (0:UInt8)).map bv)++(Z))=A++([Value.int .i64 x1]++(((List.replicate 64 (0:UInt8)).map bv)++(Z))):=List.append_assoc ..; rw [e]; exact hw)) (λu M hM=>?_)
 obtain ⟨x2,s2,sl2,cs2,N2,a2,n2,o2,⟨rfl,r2⟩,e2,h2,y2,rfl⟩:=hM
 have g2:s2.rest.length≤s.rest.length:=Nat.le_trans h2 g1
 have A2:(A++[Value.int .i64 x1]++(x2.map bv)).length=f+65:=by rw [List.length_append,A1,n2]
 refine Sy.nil ?_
 have hAf:After rdSG s ⟨x1,x2⟩ s2:=a1.bind (a2.bind (After.ret _ _))
 have hLn:([Value.int .i64 x1]++(x2.map bv)).length=65:=by simp only [List.length_append,n2]; rfl
 have hOn:∀ u∈([Value.int .i64 x1]++(x2.map bv)),u.oneCell'=true:=ones_app o1 (o2)
 have hRp:repSG (rdB (N1++(N2))) ([Value.int .i64 x1]++(x2.map bv)) ⟨x1,x2⟩:=⟨rfl,r2⟩
 exact Sy.retT0 rfl (CRS gc gr gx tx (A++(([Value.int .i64 x1]++(x2.map bv))++Z)) sl2 s2.e (R++(N1++(N2)))) (λ_ h=>by simpa only [List.append_assoc,List.cons_append,List.nil_append] using h) (λ_=>⟨_,s2,sl2,_,_,hAf,hLn,hOn,hRp,e2,g2,y2,rfl⟩)
theorem write_txx {α:Type} {rep:Rdr→List Value→α→Prop} {ok:α→Bool} {enc:α→Byt} {wt:α→Nat} (hm:Mono rep) (hp:PutC 28 3 rep ok enc wt) (w:World) (cs:List Value) (x:α) (hx:rep (rdW w) cs x) (hl:cs.length=3) (hwt:wt x≤70368744170000) :
  Calls Tryz.prog 27 #[.agg cs.toArray,.func (.func 28) #[] #[]] w (GetsN w (BytE (ok x) (enc x))):=by
 refine Sy.enter (args:=[.agg cs.toArray,.func (.func 28) #[] #[]]) Tryz.func27 rfl kL ?_
 refine sC ?_
 refine sM 26 cs.toArray (λgx=>?_) kR (λw=>run_boxR rfl rfl (by kernel_rfl) hl w)
 refine sP (.slice none 0 0)<|sP (.int .i64 0) ?_
 refine sA ?_
 refine Sy.callN kR 57 #[] kF _ (λw _=>new_any w) (λv M hM=>?_)
 obtain ⟨gw,rfl,rfl⟩:=hM
 refine sP (.agg #[ptr gw,.pointer none,.bool false])<|sM 134 #[ptr gw,.pointer none,.bool false] (λgc=>?_)
 refine sp rfl ?_
 refine sA ?_
 refine Sy.permS (M:=CWS gc gw false nilS [(gx,26,cs.toArray)]) (Sy.perm_at [2,1,0] (by kernel_rfl) (by rfl)) ?_
 refine sp rfl<|sp rfl ?_
 refine Sy.callT (λw' hw=>hp (Base.of w) gc gw gx 0 false nilS [(gx,26,cs.toArray)] [] cs x (hm rdW_base hx) hl (memX (List.mem_singleton.2 rfl)) BS.nil (by show 0+_≤_; omega) w' hw) (λv M hM=>?_)
 obtain ⟨s,bad,b,q1,q2,rfl⟩:=hM
 have hbl:b.length≤wt x:=by have:=q1.len; simpa using this
 refine sG<|Sy.seq<|sC ?_
 refine sp rfl<|sp rfl<|sP (.pointer (some ⟨gc,2,none⟩))<|sS (.bool bad) (qc 0 2 rfl rfl Tryz.underlying4) ?_
 refine sG ?_
 cases bad
 ·have hok:ok x=true:=by
   have e:=q1.bad
   cases h:ok x with
   | true=>rfl
   | false=>rw [h] at e; cases e
  obtain rfl:b=enc x:=by have:=q1.bytes rfl; simpa using this
  refine sU<|Sy.skip<|sB ?_
  refine sp rfl<|sp rfl<|sP (.pointer (some ⟨gc,0,none⟩))<|sS (ptr gw) (qc 0 0 rfl rfl Tryz.underlying130) ?_
  refine Sy.callT (λw' hw=>bytes_any (Base.of w) gw s ((gc,134,#[ptr gw,.pointer none,.bool false])::[(gx,26,cs.toArray)]) (enc x) q2 (by omega) w' (hw.perm permCW)) (λv M hM=>?_)
  obtain ⟨N,hN,rfl⟩:=hM
  refine sp rfl<|sP (.int .i64 0) ?_
  refine sG<|Sy.ret ?_
  exact Sy.retGM2 N rfl (.inl (show _=_ by kernel_rfl)) (.inl (show _=_ by kernel_rfl)) (λ_ h=>h.less (List.sublist_append_right _ _)) (.inl ⟨hok,v,rfl,hN⟩)
 ·have hok:ok x=false:=by
   have e:=q1.bad
   cases h:ok x with
   | false=>rfl
   | true=>rw [h] at e; cases e
  refine sT<|sC ?_
  refine sP (.slice none 0 0)<|sP (.int .i64 120) ?_
  refine sG<|Sy.ret<|Sy.then_ret ?_
  exact Sy.retGM2 [] rfl (.inl (show _=_ by kernel_rfl)) (.inl (show _=_ by kernel_rfl)) (λ_ h=>h.none) (.inr ⟨hok,rfl,rfl⟩)
theorem ex_txx {α:Type} {rep:Rdr→List Value→α→Prop} {ok:α→Bool} {enc:α→Byt} {wt:α→Nat} (hm:Mono rep) (hp:PutC 28 3 rep ok enc wt) (w:World) (cs:List Value) (x:α) (hx:rep (rdW w) cs x) (hl:cs.length=3) (hwt:wt x≤70368744170000) :
  Calls Tryz.prog 7 #[.agg cs.toArray] w (GetsN w (BytE (ok x) (enc x))):=by
 refine Sy.enter (args:=[.agg cs.toArray]) Tryz.func7 rfl kL ?_
 refine sC ?_
 refine sM 26 cs.toArray (λgx=>?_) kR (λw=>run_boxR rfl rfl (by kernel_rfl) hl w)
 refine sP (.slice none 0 0)<|sP (.int .i64 0) ?_
 refine sA ?_
 refine sS (.agg cs.toArray) (rowC (R:=[(gx,26,cs.toArray)]) (memX (List.mem_singleton.2 rfl)) (λ_ h=>h) hl rfl Tryz.underlying26) ?_
 refine Sy.callN kR 27 #[.agg cs.toArray,.func (.func 28) #[] #[]] kF (BytE (ok x) (enc x)) (λw' hw=>write_txx (rep:=rep) hm hp w' cs x (hm (λg o u h=>rdC_world (R:=[]) hw (λ_ h=>by cases h) g o u (.inl h)) hx) hl hwt) (λv M hM=>?_)
 have hv:∃ a e:Value,v=.tuple #[a,e]:=by
  rcases hM with ⟨_,u,rfl,_⟩ | ⟨_,rfl,_⟩ <;> exact ⟨_,_,rfl⟩
 obtain ⟨a,e,rfl⟩:=hv
 refine sp rfl<|sp rfl<|sp rfl<|sp rfl ?_
 refine sG<|Sy.ret ?_
 exact Sy.retGM2 M rfl (.inl (show _=_ by kernel_rfl)) (.inl (show _=_ by kernel_rfl)) (λ_ h=>h.less (List.sublist_append_right _ _)) hM
theorem read_txx {α:Type} {rep:Rdr→List Value→α→Prop} {p:Ps α} (hm:Mono rep) (hp:GetC 28 3 ([Value.int .u64 0]++([Value.slice none 0 0]++([Value.slice none 0 0]))) rep p) (w:World) (v:Value) (b:Byt) (hv:BytR (rdW w) v b) (hl:b.length≤70368744177664) :
  Calls Tryz.prog 31 #[v,.func (.func 28) #[] #[]] w (GetsN w (RdE 3 ([Value.int .u64 0]++([Value.slice none 0 0]++([Value.slice none 0 0]))) rep (allP p b))):=by
 refine Sy.enter (args:=[v,.func (.func 28) #[] #[]]) Tryz.func31 rfl kL ?_
 refine sC ?_
 refine sM 26 ([Value.int .u64 0]++([Value.slice none 0 0]++([Value.slice none 0 0]))).toArray (λg4=>?_)
 refine sP (.int .i64 0) ?_
 refine sA ?_
 refine sM 26 ([Value.int .u64 0]++([Value.slice none 0 0]++([Value.slice none 0 0]))).toArray (λg6=>?_)
 refine sM 26 ([Value.int .u64 0]++([Value.slice none 0 0]++([Value.slice none 0 0]))).toArray (λg7=>?_)
 refine sA ?_
 refine sp rfl ?_
 refine Sy.callN kR 67 #[v] kF _ (λw' hw=>read_any w' v b (hv.at hw) hl) (λu M hM=>?_)
 obtain ⟨gr,sl,N0,hN0,rfl,rfl⟩:=hM
 refine sP (.agg #[.pointer none,ptr gr,.bool false])<|sM 134 #[.pointer none,ptr gr,.bool false] (λgc=>?_)
 refine Sy.permS (M:=CRS gc gr g6 26 ([]++(([Value.int .u64 0]++([Value.slice none 0 0]++([Value.slice none 0 0])))++[])) sl 0 ((g4,26,([Value.int .u64 0]++([Value.slice none 0 0]++([Value.slice none 0 0]))).toArray)::(g7,26,([Value.int .u64 0]++([Value.slice none 0 0]++([Value.slice none 0 0]))).toArray)::N0)) (Sy.flat_perm (ls:=[[(g4,26,([Value.int .u64 0]++([Value.slice none 0 0]++([Value.slice none 0 0]))).toArray)],[(g6,26,([Value.int .u64 0]++([Value.slice none 0 0]++([Value.slice none 0 0]))).toArray)],[(g7,26,([Value.int .u64 0]++([Value.slice none 0 0]++([Value.slice none 0 0]))).toArray)],[(gr,253,#[sl,.int .i64 0])],N0,[(gc,134,#[.pointer none,ptr gr,.bool false])]]) (ms:=[[(gc,134,#[.pointer none,ptr gr,.bool false])],[(g6,26,([Value.int .u64 0]++([Value.slice none 0 0]++([Value.slice none 0 0]))).toArray)],[(gr,253,#[sl,.int .i64 0])],[(g4,26,([Value.int .u64 0]++([Value.slice none 0 0]++([Value.slice none 0 0]))).toArray)],[(g7,26,([Value.int .u64 0]++([Value.slice none 0 0]++([Value.slice none 0 0]))).toArray)],N0]) [5,1,3,0,2,4] (by kernel_rfl) (by rfl) (by simp) (by simp)) ?_
 refine sp rfl ?_
 refine sA ?_
 refine sp rfl<|sp rfl ?_
 refine Sy.callT (λw' hw=>hp (Base.of w) gc gr g6 0 26 [] [] sl ⟨b,0⟩ ((g4,26,([Value.int .u64 0]++([Value.slice none 0 0]++([Value.slice none 0 0]))).toArray)::(g7,26,([Value.int .u64 0]++([Value.slice none 0 0]++([Value.slice none 0 0]))).toArray)::N0) N0 (λx h=>List.mem_cons_of_mem _ (List.mem_cons_of_mem _ h)) rfl (Nat.zero_le _) hl (hN0.byt.le rdB_base) w' hw) (λu M hM=>?_)
 obtain ⟨x,s',sl',cs,N,q1,q2,q3,q4,q5,q6,q7,rfl⟩:=hM
 rw [List.append_nil]
 obtain ⟨o1,o2⟩:=all_of q1
 obtain ⟨e,hE⟩:∃ e,e=if s'.e=0∧0<s'.rest.length then 113 else s'.e:=⟨_,rfl⟩
 have hEl:e≤200:=by rw [hE]; split <;> omega
 refine sG<|Sy.seq<|sC ?_
 obtain ⟨b1,hb1⟩:∃ z:Bool,z=decide (e≠0):=⟨_,rfl⟩
 refine sp rfl<|sp rfl<|sP (.pointer (some ⟨gc,1,none⟩))<|sS (ptr gr) (qc 0 1 rfl rfl Tryz.underlying132)<|sS (.int .i64 (e:Int)) (qg (λw' hw=>by rw [hE]; exact end_any (Base.of w) gr sl' s' N0 q5 q7 (List.mem_cons_of_mem _ (List.mem_cons_of_mem _ (List.mem_cons_self ..))) w' hw))<|sS (.bool b1) (Quiet.pure (exec_int .neq _ _ _ .i64 _ _ _ rfl rfl rfl (int_neq _ _ _ _ _ (by rw [hb1]; exact decide_eq_decide.2 (by omega))))) ?_
 refine sG ?_
 cases b1
 ·have l1:e=0:=Decidable.of_not_not (of_decide_eq_false hb1.symm)
  have l2:s'.e=0∧s'.rest=[]:=by
   by_cases h:s'.e=0∧0<s'.rest.length
   ·rw [if_pos h] at hE; omega
   ·rw [if_neg h] at hE
    exact ⟨by omega,List.eq_nil_of_length_eq_zero (by omega)⟩
  refine sU<|Sy.skip<|sB ?_
  refine sS (.agg cs.toArray) (Quiet.mid 1 g6 0 3 26 26 cs cs _ _ rfl kR rfl Tryz.underlying26 rfl kR (by rw [List.drop_zero,List.take_of_length_le (by omega)]) (by omega))<|sw 3 rfl cs.toArray (Writes.row 26 cs 3 _ _ rfl kR kR kR q2 (by kernel_rfl) q3)<|sP (.int .i64 0) ?_
  refine sG<|Sy.ret ?_
  exact Sy.retGM2 N rfl (.inl (Sy.Res.cell (ty':=26) g4 3 cs.toArray _ (by kernel_rfl) rfl Tryz.underlying26 rfl (by rw [List.size_toArray,q2]; kernel_rfl) rfl)) (.inl (show _=_ by kernel_rfl)) (λ_ h=>h.less (List.sublist_append_right [(gc,134,#[.pointer none,ptr gr,.bool false]),(g6,26,cs.toArray),(gr,253,#[sl',.int .i64 (s'.e:Int)]),(g4,26,cs.toArray),(g7,26,([Value.int .u64 0]++([Value.slice none 0 0]++([Value.slice none 0 0]))).toArray)] (N0++N) |> λh1=>(List.sublist_append_right N0 N).trans h1)) (.inl ⟨x,cs,o1 l2.1 l2.2,rfl,q2,q4⟩)
 ·have l1:e≠0:=of_decide_eq_true hb1.symm
  have l2:s'.e≠0∨s'.rest≠[]:=by
   by_cases h:s'.e=0∧0<s'.rest.length
   ·exact .inr (λe=>by rw [e] at h; exact absurd h.2 (by decide))
   ·rw [if_neg h] at hE; exact .inl (by omega)
  refine sT<|sC ?_
  refine sS (.agg ([Value.int .u64 0]++([Value.slice none 0 0]++([Value.slice none 0 0]))).toArray) (qk 4 0 3 rfl rfl Tryz.underlying26)<|sw 3 rfl ([Value.int .u64 0]++([Value.slice none 0 0]++([Value.slice none 0 0]))).toArray (wA rfl)<|sP (.int .i64 120) ?_
  refine sG<|Sy.ret<|Sy.then_ret ?_
  exact Sy.retGM2 [] rfl (.inl (Sy.Res.cell (ty':=26) g4 3 ([Value.int .u64 0]++([Value.slice none 0 0]++([Value.slice none 0 0]))).toArray _ (by kernel_rfl) rfl Tryz.underlying26 rfl (by kernel_rfl) rfl)) (.inl (show _=_ by kernel_rfl)) (λ_ h=>h.none) (.inr ⟨o2 l2,rfl,rfl⟩)
theorem rdx_txx {α:Type} {rep:Rdr→List Value→α→Prop} {p:Ps α} (hm:Mono rep) (hone:∀ {C:Rdr} {cs:List Value} {x:α},rep C cs x→∀ u∈cs,u.oneCell'=true) (hp:GetC 28 3 ([Value.int .u64 0]++([Value.slice none 0 0]++([Value.slice none 0 0]))) rep p) (w:World) (v:Value) (b:Byt) (hv:BytR (rdW w) v b) (hl:b.length≤70368744177664) :
  Calls Tryz.prog 9 #[v] w (GetsN w (RdE 3 ([Value.int .u64 0]++([Value.slice none 0 0]++([Value.slice none 0 0]))) rep (allP p b))):=by
 refine Sy.enter (args:=[v]) Tryz.func9 rfl kL ?_
 refine sC ?_
 refine sM 26 ([Value.int .u64 0]++([Value.slice none 0 0]++([Value.slice none 0 0]))).toArray (λg2=>?_)
 refine sP (.int .i64 0) ?_
 refine sA ?_
 refine sp rfl ?_
 refine Sy.callN kR 31 #[v,.func (.func 28) #[] #[]] kF _ (λw' hw=>read_txx (rep:=rep) (p:=p) hm hp w' v b (hv.at hw) hl) (λu M hM=>?_)
 rcases hM with ⟨x,cs,o1,rfl,q2,q4⟩ | ⟨o1,rfl,rfl⟩
 ·have q3:∀ u∈cs,u.oneCell'=true:=hone q4
  refine sp rfl<|sp rfl<|sw 0 rfl cs.toArray (Writes.row 26 cs 3 _ _ rfl kR kR kR q2 (by kernel_rfl) q3)<|sp rfl ?_
  refine sG<|Sy.ret ?_
  exact Sy.retGM2 M rfl (.inl (Sy.Res.cell (ty':=26) g2 0 cs.toArray _ (by kernel_rfl) rfl Tryz.underlying26 rfl (by rw [List.size_toArray,q2]; kernel_rfl) rfl)) (.inl (show _=_ by kernel_rfl)) (λ_ h=>h.less (List.sublist_cons_self _ _)) (.inl ⟨x,cs,o1,rfl,q2,q4⟩)
 ·refine sp rfl<|sp rfl<|sw 0 rfl ([Value.int .u64 0]++([Value.slice none 0 0]++([Value.slice none 0 0]))).toArray (wA rfl)<|sp rfl ?_
  refine sG<|Sy.ret ?_
  exact Sy.retGM2 [] rfl (.inl (Sy.Res.cell (ty':=26) g2 0 ([Value.int .u64 0]++([Value.slice none 0 0]++([Value.slice none 0 0]))).toArray _ (by kernel_rfl) rfl Tryz.underlying26 rfl (by kernel_rfl) rfl)) (.inl (show _=_ by kernel_rfl)) (λ_ h=>h.none) (.inr ⟨o1,rfl,rfl⟩)
end Wr
end
section
namespace Wr
open Go.RowKit Sy
set_option maxRecDepth 100000
set_option maxHeartbeats 4000000
section
variable {α:Type} {rep:Rdr→List Value→α→Prop} {ok:α→Bool} {enc:α→Byt} {wt:α→Nat}
theorem el_w_sgs (hm:Mono rep) (hp:PutC 79 65 rep ok enc wt) (w0:Base) (gc gw g4 g7:Nat) (bad:Bool) (s:Slc) (R:Blocks) (b:Byt) (u:Value) (cs:List Value) (x:α) (h4:(g4,85,#[ptr gc])∈R) (h7:(g7,184,#[.func (.func 79) #[] #[]])∈R) (hx:rep (rdC w0 R) cs x) (hl:cs.length=65) (hb:BS s b) (hlen:b.length+wt x≤70368744170000) (w:World) (hw:St w0 w (CWS gc gw bad s R)) :
  Calls Tryz.prog 138 #[u,.agg cs.toArray,ptr g7,ptr g4] w (Turns w0 (WrC gc gw R (ok x) (enc x) (wt x) bad b)):=by
 refine Sy.enterT (args:=[u,.agg cs.toArray,ptr g7,ptr g4]) hw Tryz.func138 rfl kL ?_
 refine sC ?_
 refine sM 182 cs.toArray (λg5=>?_) kR (λw=>run_boxR rfl rfl (by kernel_rfl) hl w)
 refine Sy.permS (List.Perm.of_eq eqCW) ?_
 refine Sy.nil<|Sy.then_<|Sy.region ?_
 refine sS (.func (.func 79) #[] #[]) (cellC (R:=R++[(g5,182,cs.toArray)]) (mem1 (inA h7)) inCW rfl Tryz.underlying184)<|sS (ptr gc) (cellC (R:=R++[(g5,182,cs.toArray)]) (mem1 (inA h4)) inCW rfl Tryz.underlying85) ?_
 refine Sy.callT (λw hw=>hp w0.inn gc gw g5 0 bad s (R++[(g5,182,cs.toArray)]) b cs x (hm (rdC_le (λ_ h=>inA h)) hx) hl (memX lastR) hb hlen w hw) (λv M hM=>?_)
 obtain ⟨s1,bad1,b1,h1,h2,rfl⟩:=hM
 refine Sy.nil ?_
 exact Sy.retT0 rfl (CWS gc gw bad1 s1 R) (λ_ h=>dropR h) (λ_=>⟨s1,bad1,b1,h1,h2,rfl⟩)
end
section
variable {α:Type} {rep:Rdr→List Value→α→Prop} {ok:α→Bool} {enc:α→Byt} {wt:α→Nat}
theorem put_w_sgs (hm:Mono rep) (hp:PutC 79 65 rep ok enc wt) (w0:Base) (gc gw g4 g7:Nat) (bad:Bool) (s:Slc) (R:Blocks) (b:Byt) (v:Value) (l:List α) (h4:(g4,85,#[ptr gc])∈R) (h7:(g7,184,#[.func (.func 79) #[] #[]])∈R) (hv:LstR (rdC w0 R) 65 rep v l) (hb:BS s b) (hlen:b.length+(9+(l.map wt).sum)≤70368744170000) (w:World) (hw:St w0 w (CWS gc gw bad s R)) :
  Calls Tryz.prog 137 #[ptr gw,v,.func (.func 138) #[] #[ptr g7,ptr g4]] w (Turns w0 (WrC gc gw R (l.all ok) (varB l.length++l.flatMap enc) (9+(l.map wt).sum) bad b)):=by
 obtain ⟨A,n,cp,rfl,h2,h3,h4',h5⟩:=hv
 have hmx:n<9223372036854775808:=by simp only [maxLen] at h4'; omega
 refine Sy.enterT (args:=[ptr gw,.slice A n cp,.func (.func 138) #[] #[ptr g7,ptr g4]]) hw Tryz.func137 rfl kL ?_
 refine sC ?_
 refine sp rfl<|sp rfl<|sP (.int .i64 (n:Int))<|sS (.int .u64 (n:Int)) (Quiet.pure (λw=>conv_i6 w _ _ _ n (by omega) rfl rfl)) ?_
 refine Sy.callT (λw hw=>var_any w0.inn gw s ((gc,134,#[ptr gw,.pointer none,.bool bad])::R) b n (by omega) hb (by omega) w (hw.perm permCW)) (λu M hM=>?_)
 obtain ⟨s1,hs1,rfl⟩:=hM
 have hn9:=varB_len n
 refine Sy.permS permCW.symm ?_
 refine Sy.nil<|sB ?_
 refine sp rfl<|sP (.int .i64 (n:Int))<|sP (.int .i64 0) ?_
 refine sG<|Sy.block ?_
 have hw0:Wrote true (varB n) 9 bad b bad (b++varB n):=Wrote.raw _ _ _ hn9
 have hsum:∀ i,((l.take i).map wt).sum≤(l.map wt).sum:=λi=>by
  have e:=congrArg (λz=>(z.map wt).sum) (List.take_append_drop i l)
  simp only [List.map_append,List.sum_append] at e
  omega
 refine Sy.loopT (Y:=Slc×Bool×Byt) n (λi y=>[(0,ptr gw),(2,.func (.func 138) #[] #[ptr g7,ptr g4]),(13,.slice A n cp),(14,.int .i64 (n:Int)),(15,.int .i64 (i:Int))]) (λi y=>CWS gc gw y.2.1 y.1 R) (λi y=>Wrote ((l.take i).all ok) (varB n++(l.take i).flatMap enc) (9+((l.take i).map wt).sum) bad b y.2.1 y.2.2∧BS y.1 y.2.2) (s1,bad,b++varB n) ⟨by
  have e:Wrote ((l.take 0).all ok) (varB n++(l.take 0).flatMap enc) (9+((l.take 0).map wt).sum) bad b bad (b++varB n):=by
   rw [List.take_zero]
   simpa using hw0
  exact e,hs1⟩ (all_cons kR (all_cons kR (all_cons kR (all_cons kR (all_cons kR all_nil))))) (λ_ h=>h) (λi y hi hy=>?_)
 obtain ⟨sy,bady,by_⟩:=y
 obtain ⟨hy,hsy⟩:=hy
 dsimp only at hy hsy ⊢
 refine sC ?_
 obtain ⟨b2,hb2⟩:∃ z:Bool,z=decide (i<n):=⟨_,rfl⟩
 refine sS (.bool b2) (Quiet.pure (exec_int .lss _ _ _ .i64 _ _ _ rfl rfl rfl (int_lss _ _ _ _ _ (by rw [hb2]; exact decide_eq_decide.2 (by omega))))) ?_
 refine sG<|Sy.seq ?_
 cases b2
 case' false =>
  have l2:¬ i<n:=of_decide_eq_false hb2.symm
  obtain rfl:i=n:=by omega
  rw [List.take_of_length_le (by omega)] at hy
  refine sU<|Sy.exit<|Sy.then_exit<|Sy.then_exit<|Sy.in_exit ?_
  rw [h2]
  exact Sy.retT0 rfl (CWS gc gw bady sy R) (λ_ h=>h) (λ_=>⟨sy,bady,by_,hy,hsy,rfl⟩)
 have l2:i<n:=of_decide_eq_true hb2.symm
 obtain ⟨x,hx⟩:∃ x,l[i]? = some x:=⟨_,List.getElem?_eq_getElem (by omega)⟩
 obtain ⟨g,o,rfl,hq⟩:=h5 (by intro e; rw [e] at hx; cases hx)
 obtain ⟨cs,c1,c2,c3,c4⟩:=hq i x hx
 have htk:l.take (i+1)=l.take i++[x]:=by rw [List.take_add_one,hx]; rfl
 have hsi:=hsum (i+1)
 rw [htk] at hsi
 simp only [List.map_append,List.sum_append,List.map_cons,List.map_nil,List.sum_cons,List.sum_nil] at hsi
 refine sT<|Sy.skip<|Sy.then_<|Sy.seq<|Sy.block<|sC ?_
 refine sS (.pointer (some ⟨g,o+i*65,none⟩)) (Quiet.pure (exec_atO 43 _ _ _ (some ⟨g,o,none⟩) g o n cp i 65 .i64 rfl rfl rfl rfl Tryz.underlying43 kF l2))<|sS (.agg cs.toArray) (rowC (R:=R) c4 inCW c1 rfl Tryz.underlying182) ?_
 refine sM 182 (([Value.int .i64 0]++(List.replicate 64 (0:UInt8)).map bv)).toArray (λg9=>?_)
 refine Sy.permS (List.Perm.of_eq eqCW) ?_
 refine Sy.permS (List.perm_append_comm (l₁:=CWS gc gw bady sy R) (l₂:=[(g9,182,(([Value.int .i64 0]++(List.replicate 64 (0:UInt8)).map bv)).toArray)]) |> λh=>(List.Perm.of_eq eqCW.symm).trans h) ?_
 refine sw 0 rfl cs.toArray (Writes.row 182 cs 65 _ _ rfl kR kR kR c1 (by kernel_rfl) c2) ?_
 refine Sy.permS ((List.perm_append_comm (l₁:=[(g9,182,cs.toArray)]) (l₂:=CWS gc gw bady sy R)).trans (List.Perm.of_eq eqCW)) ?_
 refine Sy.nil<|Sy.then_<|Sy.region ?_
 refine sp rfl<|sp rfl<|sS (.agg cs.toArray) (rowC (R:=R++[(g9,182,cs.toArray)]) (memX lastR) inCW c1 rfl Tryz.underlying182) ?_
 refine Sy.callT (λw hw=>el_w_sgs (rep:=rep) (ok:=ok) (enc:=enc) (wt:=wt) hm hp w0.inn gc gw g4 g7 bady sy (R++[(g9,182,cs.toArray)]) by_ (ptr gw) cs x (inA h4) (inA h7) (hm (rdC_le (λ_ h=>inA h)) c3) c1 hsy (by have hyl:=hy.len; omega) w hw) (λv M hM=>?_)
 obtain ⟨s3,bad3,b3,q1,q2,rfl⟩:=hM
 refine Sy.nil<|Sy.in_<|Sy.then_<|Sy.region ?_
 refine sS (.int .i64 ((i+1:Nat):Int)) (Quiet.pure (exec_int .add _ _ _ .i64 _ _ _ rfl rfl rfl (int_add _ _ _ _ _ ((wrap_i64 (by omega) (by omega)).trans (by omega)))))<|sp rfl ?_
 refine Sy.nil ?_
 have hW:=hy.then_ q1
 have hW':Wrote ((l.take (i+1)).all ok) (varB n++(l.take (i+1)).flatMap enc) (9+((l.take (i+1)).map wt).sum) bad b bad3 b3:=by
  rw [htk]
  simp only [List.all_append,List.flatMap_append,List.map_append,List.sum_append,List.all_cons,List.all_nil,List.flatMap_cons,List.flatMap_nil,List.map_cons,List.map_nil,List.sum_cons,List.sum_nil,Bool.and_true,List.append_nil,Nat.add_zero, ← List.append_assoc, ← Nat.add_assoc]
  simpa only [List.append_assoc,Nat.add_assoc] using hW
 exact Sy.againT (s3,bad3,b3) l2 ⟨hW',q2⟩ (all_cons kR (all_cons kR (all_cons kR (all_cons kR (all_cons kR all_nil))))) (λw h=>dropR h)
theorem list_w_sgs (hm:Mono rep) (hp:PutC 79 65 rep ok enc wt) (w0:Base) (gc gw gx f most:Nat) (hmo:most<1000000) (bad:Bool) (s:Slc) (R:Blocks) (b:Byt) (v:Value) (l:List α) (hv:LstR (rdC w0 R) 65 rep v l) (hc:rdC w0 R gx f v) (hb:BS s b) (hlen:b.length+(9+(l.map wt).sum)≤70368744170000) (w:World) (hw:St w0 w (CWS gc gw bad s R)) :
  Calls Tryz.prog 78 #[ptr gc,.pointer (some ⟨gx,f,none⟩),.int .i64 (most:Int),.func (.func 79) #[] #[]] w (Turns w0 (WrC gc gw R (decide (l.length≤most) && l.all ok) (varB l.length++l.flatMap enc) (9+(l.map wt).sum) bad b)):=by
 have hv0:=hv
 obtain ⟨A,n,cp,rfl,h2,h3,h4',h5⟩:=hv
 refine Sy.enterT (args:=[ptr gc,.pointer (some ⟨gx,f,none⟩),.int .i64 (most:Int),.func (.func 79) #[] #[]]) hw Tryz.func78 rfl kL ?_
 refine sC ?_
 refine sM 85 #[ptr gc] (λg4=>?_)
 refine Sy.permS (List.Perm.of_eq eqCW) ?_
 refine sM 184 #[.func (.func 79) #[] #[]] (λg7=>?_)
 refine Sy.permS (List.Perm.of_eq eqCW) ?_
 obtain ⟨R1,hR1⟩:∃ R1,R1=R++[(g4,85,#[ptr gc])]++[(g7,184,#[.func (.func 79) #[] #[]])]:=⟨_,rfl⟩
 rw [← hR1]
 have m4:(g4,85,#[ptr gc])∈R1:=by rw [hR1]; exact inA lastR
 have m7:(g7,184,#[.func (.func 79) #[] #[]])∈R1:=by rw [hR1]; exact lastR
 have mR:∀ x∈R,x∈R1:=λx hx=>by rw [hR1]; exact inA (inA hx)
 have hv1:LstR (rdC w0 R1) 65 rep (.slice A n cp) l:=LstR.le (rep:=rep) hm (rdC_le mR) hv0
 have hc1:rdC w0 R1 gx f (.slice A n cp):=rdC_le mR _ _ _ hc
 have back:∀ {w:World} {bad':Bool} {s':Slc},St w0 w (CWS gc gw bad' s' R1)→St w0 w (CWS gc gw bad' s' R):=λh=>by
  rw [hR1,List.append_assoc] at h
  exact dropR h
 refine sG<|Sy.seq<|sC ?_
 refine sS (ptr gc) (cellC (R:=R1) (mem1 m4) inCW rfl Tryz.underlying85)<|sS (.bool false) (qg (λw hw=>reads_w w0.inn gc _ _ (List.mem_cons_self ..) w hw)) ?_
 refine sG<|sU<|Sy.skip ?_
 obtain ⟨b1,hb1⟩:∃ z:Bool,z=decide (n≤most):=⟨_,rfl⟩
 refine sR (λj=>j == 7) ?_
 refine sD 0 rfl (ptr gc) (cellC (R:=R1) (mem1 m4) inCW rfl Tryz.underlying85)<|sa 1 rfl rfl<|sa 2 rfl rfl<|se 3 [4,6,7] rfl (.slice A n cp) (cellC (R:=R1) hc1 inCW rfl Tryz.underlying43)<|sb 4 rfl (.int .i64 (n:Int))<|sa 5 rfl rfl ?_
 refine sv 6 rfl (.bool b1) (exec_int .leq _ _ _ .i64 _ _ _ rfl rfl rfl (int_leq _ _ _ _ _ (by rw [hb1]; exact decide_eq_decide.2 (by omega)))) ?_
 refine Sy.soleD 7 rfl (λQ2 hq2=>?_)
 refine Sy.callT (λw hw=>must_w w0.inn gc gw bad b1 s R1 w hw) (λu M hM=>?_)
 subst hM
 refine hq2 _ _ ?_
 refine sE ?_
 obtain ⟨bad1,hbad1⟩:∃ x,x=(bad || !b1):=⟨_,rfl⟩
 rw [← hbad1]
 refine sB ?_
 refine sS (ptr gc) (cellC (R:=R1) (mem1 m4) inCW rfl Tryz.underlying85)<|sp rfl<|sP (.pointer (some ⟨gc,2,none⟩))<|sS (.bool bad1) (qc 0 2 rfl rfl Tryz.underlying4)<|sP (.bool (!bad1)) ?_
 refine sG ?_
 cases bad1
 ·have hb1t:bad=false∧b1=true:=by cases bad <;> cases b1 <;> first | exact ⟨rfl,rfl⟩ | cases hbad1
  obtain ⟨rfl,rfl⟩:=hb1t
  have e1:decide (l.length≤most)=true:=by rw [h2, ← hb1]
  rw [e1,Bool.true_and]
  refine sT ?_
  refine Sy.regionD (λj=>j == 8) kR ?_
  refine se 0 [1,2,3,8] rfl (ptr gc) (cellC (R:=R1) (mem1 m4) inCW rfl Tryz.underlying85)<|sa 1 rfl rfl<|sb 2 rfl (.pointer (some ⟨gc,0,none⟩))<|sD 3 rfl (ptr gw) (qc 0 0 rfl rfl Tryz.underlying130)<|sa 4 rfl rfl<|sa 5 rfl rfl<|sD 6 rfl (.slice A n cp) (cellC (R:=R1) hc1 inCW rfl Tryz.underlying43)<|sb 7 rfl (.func (.func 138) #[] #[ptr g7,ptr g4]) ?_
  refine Sy.soleD 8 rfl (λQ2 hq2=>?_)
  refine Sy.callT (λw hw=>put_w_sgs (rep:=rep) hm hp w0.inn gc gw g4 g7 false s R1 b (.slice A n cp) l m4 m7 hv1 hb hlen w hw) (λu M hM=>?_)
  obtain ⟨s1,bad2,b2,q1,q2,rfl⟩:=hM
  refine hq2 _ _ ?_
  refine sE ?_
  exact Sy.retT0 rfl (CWS gc gw bad2 s1 R) (λ_ h=>back h) (λ_=>⟨s1,bad2,b2,q1,q2,rfl⟩)
 ·refine sU<|Sy.skip ?_
  have e1:true=(bad || !(decide (l.length≤most) && l.all ok)):=by
   rw [h2, ← hb1]
   cases bad
   ·cases b1
    ·rfl
    ·cases hbad1
   ·rfl
  exact Sy.retT0 rfl (CWS gc gw true s R) (λ_ h=>back h) (λ_=>⟨s,true,b,⟨e1,λh=>(by cases h),by omega⟩,hb,rfl⟩)
end
section
variable {α:Type} {rep:Rdr→List Value→α→Prop} {p:Ps α}
theorem el_r_sgs (hm:Mono rep) (hp:GetC 79 65 ((([Value.int .i64 0]++(List.replicate 64 (0:UInt8)).map bv))) rep p) (w0:Base) (gc gr g4 g7:Nat) (sl:Value) (s:RS) (R S:Blocks) (hS:∀ b∈S,b∈R) (h4:(g4,85,#[ptr gc])∈R) (h7:(g7,184,#[.func (.func 79) #[] #[]])∈R) (he:s.e≤200) (hl:s.rest.length≤70368744177664) (hv:BytR (rdC w0 S) sl s.rest) (u:Value) (w:World) (hw:St w0 w (CRN gc gr sl s.e R)) :
  Calls Tryz.prog 136 #[u,ptr g7,ptr g4] w (Turns w0 (RdV 65 rep p w0 gc gr s R S)):=by
 refine Sy.enterT (args:=[u,ptr g7,ptr g4]) hw Tryz.func136 rfl kL ?_
 refine sC ?_
 refine sM 182 ((([Value.int .i64 0]++(List.replicate 64 (0:UInt8)).map bv))).toArray (λga=>?_)
 refine sA ?_
 refine sM 182 ((([Value.int .i64 0]++(List.replicate 64 (0:UInt8)).map bv))).toArray (λgb=>?_)
 refine Sy.permS (M:=CRS gc gr gb 182 ([]++(((([Value.int .i64 0]++(List.replicate 64 (0:UInt8)).map bv)))++[])) sl s.e ((ga,182,((([Value.int .i64 0]++(List.replicate 64 (0:UInt8)).map bv))).toArray)::R)) permEl ?_
 refine sA ?_
 refine sS (.func (.func 79) #[] #[]) (cellC (R:=(ga,182,((([Value.int .i64 0]++(List.replicate 64 (0:UInt8)).map bv))).toArray)::R) (mem1 (List.mem_cons_of_mem _ h7)) inCR rfl Tryz.underlying184)<|sS (ptr gc) (cellC (R:=(ga,182,((([Value.int .i64 0]++(List.replicate 64 (0:UInt8)).map bv))).toArray)::R) (mem1 (List.mem_cons_of_mem _ h4)) inCR rfl Tryz.underlying85) ?_
 refine Sy.callT (λw hw=>hp w0.inn gc gr gb 0 182 [] [] sl s ((ga,182,((([Value.int .i64 0]++(List.replicate 64 (0:UInt8)).map bv))).toArray)::R) S (λb h=>List.mem_cons_of_mem _ (hS b h)) rfl he hl hv w hw) (λv M hM=>?_)
 obtain ⟨x,s',sl',cs,N,q1,q2,q3,q4,q5,q6,q7,rfl⟩:=hM
 rw [List.append_nil]
 refine sA ?_
 refine sS (.agg cs.toArray) (Quiet.mid 1 gb 0 65 182 182 cs cs _ _ rfl kR rfl Tryz.underlying182 rfl kR (by rw [List.drop_zero,List.take_of_length_le (by omega)]) (by omega))<|sw 3 rfl cs.toArray (Writes.row 182 cs 65 _ _ rfl kR kR kR q2 (by kernel_rfl) q3) ?_
 refine sG<|Sy.ret ?_
 exact Sy.retT1 (CRN gc gr sl' s'.e (R++N)) rfl (.inl (Sy.Res.cell (ty':=182) ga 3 cs.toArray _ (by kernel_rfl) rfl Tryz.underlying182 rfl (by rw [List.size_toArray,q2]; kernel_rfl) rfl)) (λw h=>h.less (((List.Sublist.refl _).cons _ |>.cons_cons _).cons _ |>.cons_cons _)) ⟨x,s',sl',cs,N,q1,q2,q3,q4,rfl,q5,q6,q7,rfl⟩
theorem items_r_sgs (w:World) (gr most g4 g7:Nat):Calls Tryz.prog 187 #[ptr gr,.int .i64 (most:Int),.func (.func 136) #[] #[ptr g7,ptr g4]] w (GetsN w (λv M=>∃ a b c,v=.func (.func 224) #[] #[ptr a,ptr b,ptr c]∧M=[(a,132,#[ptr gr]),(b,3,#[.int .i64 (most:Int)]),(c,269,#[.func (.func 136) #[] #[ptr g7,ptr g4]])])):=by
 refine Sy.enter (args:=[ptr gr,.int .i64 (most:Int),.func (.func 136) #[] #[ptr g7,ptr g4]]) Tryz.func187 rfl kL ?_
 refine sC ?_
 refine sM 132 #[ptr gr] (λa=>?_)
 refine sM 3 #[.int .i64 (most:Int)] (λb=>?_)
 refine sM 269 #[.func (.func 136) #[] #[ptr g7,ptr g4]] (λc=>?_)
 refine sP .nilFunc ?_
 refine sA ?_
 refine sP (.func (.func 224) #[] #[ptr a,ptr b,ptr c])<|sp rfl ?_
 refine sG<|Sy.ret ?_
 exact Sy.retGM _ rfl (.inl (show _=_ by kernel_rfl)) (λ_ h=>h) ⟨a,b,c,rfl,rfl⟩
noncomputable def inf_sgs:TypeInfo:=(Tryz.prog.info? 182).getD default
theorem info_sgs:Tryz.prog.info? 182=some inf_sgs:=by kernel_rfl
def HYL_sgs (p:Ps α) (rep:Rdr→List Value→α→Prop) (w0:Base) (S:Blocks) (m:Nat) (s1:RS) (v:Nat×List Value) (y:YL α):Prop:=∃ x,y.x=some x∧y.l.length=v.1∧RowsOk 182 65 rep y.r y.N y.l∧rep (rdB y.N) v.2 x∧v.2.length=65∧(∀ u∈v.2,u.oneCell'=true)∧v.1<1000000
def HRL_sgs (rep:Rdr→List Value→α→Prop) (y y':YL α):Prop:=∃ x r',y.x=some x∧RowsOk 182 65 rep r' y.N (y.l++[x])∧y'={ y with l:=y.l++[x],r:=r',x:=none }
theorem iter_r_sgs (hm:Mono rep) (hp:GetC 79 65 ((([Value.int .i64 0]++(List.replicate 64 (0:UInt8)).map bv))) rep p) (w0:Base) (fz:World) (gc gr gl g4 g7 a b c most:Nat) (hmost:most<1000000) (R S:Blocks) (s0:RS) (sl0:Value) (hS:∀ x∈S,x∈R) (h4:(g4,85,#[ptr gc])∈R) (h7:(g7,184,#[.func (.func 79) #[] #[]])∈R) (ha:(a,132,#[ptr gr])∈R) (hb:(b,3,#[.int .i64 (most:Int)])∈R) (hc:(c,269,#[.func (.func 136) #[] #[ptr g7,ptr g4]])∈R) (he:s0.e≤200) (hl:s0.rest.length≤70368744177664) (hv:BytR (rdC w0 S) sl0 s0.rest) (lp:Nat) (w:World) (hw:St (ib w0.world fz) w (LBL gc gr gl 43 nilS s0.e sl0 R []))
  (hY:∀ (v:Nat×List Value) (y:YL α) (W:World),(HYL_sgs p rep w0 S 0 s0 v y)→St (ib w0.world fz) W (LBL gc gr gl 43 y.r y.s.e y.sl R y.N)→YieldAt Fence.wide 7 Tryz.prog lp #[.int .i64 (v.1:Int),.agg v.2.toArray] W (RoundT w0.world fz (HRL_sgs rep y) (λy=>LBL gc gr gl 43 y.r y.s.e y.sl R y.N))) :
  CallsIn Fence.wide 8 Tryz.prog 224 #[.func (.yield lp) #[] #[],ptr a,ptr b,ptr c] w (DoneT w0.world fz (λy:YL α=>∃ m s1,After (varP most) s0 m s1∧s1.rest.length≤s0.rest.length∧y.l.length≤most∧InvL 182 65 rep p w0 S m s1 y.l.length y∧(y.s.e=0→y.l.length=m)) (λy=>LBL gc gr gl 43 y.r y.s.e y.sl R y.N)):=by
 refine Sy.enterI (args:=[.func (.yield lp) #[] #[],ptr a,ptr b,ptr c]) hw Tryz.func224 rfl kL ?_
 refine sC ?_
 refine sS (ptr gr) (cellC (R:=R) (mem1 ha) lbl_in rfl Tryz.underlying132)<|sS (.int .i64 (most:Int)) (cellC (R:=R) (mem1 hb) lbl_in rfl Tryz.underlying3) ?_
 refine Sy.callT (λw hw=>count_any (ib w0.world fz) gr sl0 s0 ((gc,134,#[.pointer none,ptr gr,.bool false])::(gl,43,#[.slice none 0 0])::(R++[])) S (λx h=>List.mem_cons_of_mem _ (List.mem_cons_of_mem _ (List.mem_append_left _ (hS x h)))) most hmost he hv w (hw.perm swap12)) (λu M hM=>?_)
 obtain ⟨m,s1,sl1,hA1,⟨rfl,hm1⟩,hs1e,hs1r,hs1b,rfl⟩:=hM
 refine Sy.permS (M:=LBL gc gr gl 43 nilS s1.e sl1 R []) swap12.symm ?_
 refine sp rfl ?_
 refine sA ?_
 refine sP (.int .i64 0) ?_
 refine sG<|Sy.block ?_
 refine Sy.loopT (Y:=YL α) m (λi y=>[(0,.func (.yield lp) #[] #[]),(1,ptr a),(2,ptr b),(3,ptr c),(5,.int .i64 (m:Int)),(6,.int .i64 (i:Int))]) (λi y=>LBL gc gr gl 43 y.r y.s.e y.sl R y.N) (λi y=>InvL 182 65 rep p w0 S m s1 i y) ⟨[],nilS,s1,sl1,[],none⟩ ⟨rfl,RowsOk.nil,λh=>⟨h,rfl⟩,λh=>.inl h,hs1e,Nat.le_refl _,hs1b⟩ (all_cons kR (all_cons kR (all_cons kR (all_cons kR (all_cons kR (all_cons kR all_nil)))))) (λ_ h=>h) (λi y hi hy=>?_)
 obtain ⟨l,r,s,sl,N,xo⟩:=y
 have hylen:l.length=i:=hy.len
 refine Sy.seq<|sC ?_
 obtain ⟨b1,hb1⟩:∃ z:Bool,z=decide (i<m):=⟨_,rfl⟩
 refine sp rfl<|sp rfl<|sS (.bool b1) (Quiet.pure (exec_int .lss _ _ _ .i64 _ _ _ rfl rfl rfl (int_lss _ _ _ _ _ (by rw [hb1]; exact decide_eq_decide.2 (by omega)))))<|sp rfl ?_
 cases b1
 case' false =>
  have l1:¬ i<m:=of_decide_eq_false hb1.symm
  obtain rfl:i=m:=by omega
  refine sN<|sN<|sN<|sP (.bool false) ?_
  refine sG<|sU<|Sy.exit<|Sy.then_exit<|Sy.then_exit<|Sy.in_exit ?_
  exact Sy.retI rfl (λv w h=>⟨⟨_,rfl⟩,⟨l,r,s,sl,N,xo⟩,⟨i,s1,hA1,hs1r,by show l.length≤most; omega,by rw [show (⟨l,r,s,sl,N,xo⟩:YL α).l.length=i from hylen]; exact hy,λ_=>hylen⟩,h⟩) (.inr rfl)
 have l1:i<m:=of_decide_eq_true hb1.symm
 obtain ⟨b2,hb2⟩:∃ z:Bool,z=decide (s.e=0):=⟨_,rfl⟩
 have hse:s.e≤200:=hy.e
 refine sS (ptr gr) (cellC (R:=R) (mem1 ha) lbl_in rfl Tryz.underlying132)<|sS (.int .i64 (s.e:Int)) (qg (λw hw=>err_any (ib w0.world fz) gr sl s.e [] (List.mem_cons_of_mem _ (List.mem_cons_self ..)) w hw))<|sS (.bool b2) (Quiet.pure (exec_int .eql _ _ _ .i64 _ _ _ rfl rfl rfl (int_eql _ _ _ _ _ (by rw [hb2]; exact decide_eq_decide.2 (by omega)))))<|sP (.bool b2) ?_
 refine sG ?_
 cases b2
 case' false =>
  have l2:s.e≠0:=of_decide_eq_false hb2.symm
  refine sU<|Sy.exit<|Sy.then_exit<|Sy.then_exit<|Sy.in_exit ?_
  exact Sy.retI rfl (λv w h=>⟨⟨_,rfl⟩,⟨l,r,s,sl,N,xo⟩,⟨m,s1,hA1,hs1r,by show l.length≤most; omega,by rw [show (⟨l,r,s,sl,N,xo⟩:YL α).l.length=i from hylen]; exact hy,λh=>(l2 h).elim⟩,h⟩) (.inr rfl)
 have l2:s.e=0:=of_decide_eq_true hb2.symm
 obtain ⟨hs10,hrep⟩:=hy.yes l2
 refine sT<|Sy.skip<|Sy.then_<|Sy.seq<|Sy.block<|sC ?_
 refine sS (.func (.func 136) #[] #[ptr g7,ptr g4]) (cellC (R:=R) (mem1 hc) lbl_in rfl Tryz.underlying269)<|sS (ptr gr) (cellC (R:=R) (mem1 ha) lbl_in rfl Tryz.underlying132) ?_
 refine Sy.callT (λw hw=>el_r_sgs (rep:=rep) (p:=p) hm hp (ib w0.world fz) gc gr g4 g7 sl s ((gl,43,#[r.v])::(r.bl++(R++N))) S (λx h=>List.mem_cons_of_mem _ (List.mem_append_right _ (List.mem_append_left _ (hS x h)))) (List.mem_cons_of_mem _ (List.mem_append_right _ (List.mem_append_left _ h4))) (List.mem_cons_of_mem _ (List.mem_append_right _ (List.mem_append_left _ h7))) hse (Nat.le_trans (Nat.le_trans hy.rest hs1r) hl) hy.byt (ptr gr) w hw) (λu M hM=>?_)
 obtain ⟨x,s',sl',cs,N1,q1,q2,q3,q4,rfl,q5,q6,q7,rfl⟩:=hM
 obtain ⟨st1,st2⟩:=rep_step hrep l2 q1
 refine sM 182 ((([Value.int .i64 0]++(List.replicate 64 (0:UInt8)).map bv))).toArray (λgb=>?_)
 refine Sy.permS (M:=(gb,182,((([Value.int .i64 0]++(List.replicate 64 (0:UInt8)).map bv))).toArray)::LBL gc gr gl 43 r s'.e sl' R (N++N1)) ((List.perm_append_comm (l₂:=[(gb,182,((([Value.int .i64 0]++(List.replicate 64 (0:UInt8)).map bv))).toArray)])).trans (List.Perm.cons _ (List.Perm.of_eq (by simp only [List.cons_append,List.append_assoc,List.nil_append]; rfl)))) ?_
 refine sw 0 rfl cs.toArray (Writes.row 182 cs 65 _ _ rfl kR kR kR q2 (by kernel_rfl) q3) ?_
 refine Sy.nil<|Sy.then_ ?_
 have hR2:RowsOk 182 65 rep r (N++N1) l:=RowsOk.more (rep:=rep) hm hy.rows (λb h=>List.mem_append_left _ h)
 have hx2:rep (rdB (N++N1)) cs x:=hm (rdB_le λb h=>List.mem_append_right _ h) q4
 have drop1:∀ {w:World},St (ib w0.world fz) w ((gb,182,cs.toArray)::LBL gc gr gl 43 r s'.e sl' R (N++N1))→St (ib w0.world fz) w (LBL gc gr gl 43 r s'.e sl' R (N++N1)):=λh=>h.less (List.sublist_cons_self _ _)
 obtain ⟨b3,hb3⟩:∃ z:Bool,z=decide (s'.e≠0):=⟨_,rfl⟩
 have inl:∀ b∈R,b∈(gb,182,cs.toArray)::LBL gc gr gl 43 r s'.e sl' R (N++N1):=λb h=>List.mem_cons_of_mem _ (lbl_in b h)
 refine Sy.seq ?_
 cases b3
 case' true =>
  have l3:s'.e≠0:=of_decide_eq_true hb3.symm
  refine Sy.region ?_
  refine sS (ptr gr) (cellC (R:=R) (mem1 ha) inl rfl Tryz.underlying132)<|sS (.int .i64 (s'.e:Int)) (qg (λw hw=>err_any (ib w0.world fz) gr sl' s'.e [] (List.mem_cons_of_mem _ (List.mem_cons_of_mem _ (List.mem_cons_self ..))) w hw))<|sS (.bool true) (Quiet.pure (exec_int .neq _ _ _ .i64 _ _ _ rfl rfl rfl (int_neq _ _ _ _ _ (by rw [hb3]; exact decide_eq_decide.2 (by omega)))))<|sp rfl<|sN<|sN<|sN<|sN<|sN<|sP (.bool true) ?_
  refine sG<|sT<|Sy.ret<|Sy.in_ret<|Sy.then_ret<|Sy.then_ret<|Sy.in_ret ?_
  exact Sy.retI rfl (λv w h=>⟨⟨_,rfl⟩,⟨l,r,s',sl',N++N1,none⟩,⟨m,s1,hA1,hs1r,by show l.length≤most; omega,⟨rfl,hR2,λh=>(l3 h).elim,λ_=>.inr (st2 l3 m l1),q5,Nat.le_trans q6 hy.rest,q7⟩,λh=>(l3 h).elim⟩,drop1 h⟩) (.inl rfl)
 have l3:s'.e=0:=Decidable.of_not_not (of_decide_eq_false hb3.symm)
 refine Sy.regionI 7 (by rintro ⟨_,_,⟨_,hv⟩,_⟩; cases hv) kR ?_
 refine sS (ptr gr) (cellC (R:=R) (mem1 ha) inl rfl Tryz.underlying132)<|sS (.int .i64 (s'.e:Int)) (qg (λw hw=>err_any (ib w0.world fz) gr sl' s'.e [] (List.mem_cons_of_mem _ (List.mem_cons_of_mem _ (List.mem_cons_self ..))) w hw))<|sS (.bool false) (Quiet.pure (exec_int .neq _ _ _ .i64 _ _ _ rfl rfl rfl (int_neq _ _ _ _ _ (by rw [hb3]; exact decide_eq_decide.2 (by omega)))))<|sp rfl<|sp rfl<|sp rfl<|sS (.agg cs.toArray) (Quiet.mid 0 gb 0 65 182 182 cs cs _ _ rfl kR rfl Tryz.underlying182 rfl kR (by rw [List.drop_zero,List.take_of_length_le (by omega)]) (by omega)) ?_
 refine Sy.nil ?_
 refine Sy.yieldI (HR:=HRL_sgs rep ⟨l,r,s',sl',N++N1,some x⟩) (LR:=λy=>LBL gc gr gl 43 y.r y.s.e y.sl R y.N) rfl (by rintro ⟨_,_,⟨_,hv⟩,_⟩; cases hv) kR kR lp #[.int .i64 (i:Int),.agg cs.toArray] kF (λw hw=>hY (i,cs) ⟨l,r,s',sl',N++N1,some x⟩ w ⟨x,rfl,hylen,hR2,hx2,q2,q3,by show i<1000000; omega⟩ (drop1 hw)) (λy' hy'=>?_)
 obtain ⟨x',r',hx',hr',rfl⟩:=hy'
 obtain rfl:x=x':=by injection hx'
 refine sP (.bool false)<|sP (.bool false) ?_
 refine sG<|sU<|Sy.skip<|Sy.in_<|Sy.then_<|Sy.region ?_
 refine sp rfl<|sS (.int .i64 ((i+1:Nat):Int)) (Quiet.pure (exec_int .add _ _ _ .i64 _ _ _ rfl rfl rfl (int_add _ _ _ _ _ ((wrap_i64 (by omega) (by omega)).trans (by omega)))))<|sp rfl ?_
 refine Sy.nil ?_
 exact Sy.againT ⟨l++[x],r',s',sl',N++N1,none⟩ l1 ⟨by simp [hylen],hr',λ_=>⟨hs10,st1 l3⟩,λh=>(h l3).elim,q5,Nat.le_trans q6 hy.rest,q7⟩ (all_cons kR (all_cons kR (all_cons kR (all_cons kR (all_cons kR (all_cons kR all_nil)))))) (λw h=>h)
theorem list9_r_sgs (hm:Mono rep) (hp:GetC 79 65 ((([Value.int .i64 0]++(List.replicate 64 (0:UInt8)).map bv))) rep p) (w0:Base) (gc gr g4 g7 most:Nat) (hmost:most<1000000) (sl0:Value) (s0:RS) (R S:Blocks) (hS:∀ x∈S,x∈R) (h4:(g4,85,#[ptr gc])∈R) (h7:(g7,184,#[.func (.func 79) #[] #[]])∈R) (he:s0.e≤200) (hl:s0.rest.length≤70368744177664) (hv:BytR (rdC w0 S) sl0 s0.rest) (w:World) (hw:St w0 w (CRN gc gr sl0 s0.e R)) :
  Calls Tryz.prog 135 #[ptr gr,.int .i64 (most:Int),.func (.func 136) #[] #[ptr g7,ptr g4]] w (Turns w0 (RdL 65 rep (listP most p) w0 gc gr s0 R S)):=by
 refine Sy.enterTM (args:=[ptr gr,.int .i64 (most:Int),.func (.func 136) #[] #[ptr g7,ptr g4]]) hw Tryz.func135 rfl kL ?_
 refine sC ?_
 refine sP (.slice none 0 0) ?_
 refine sA ?_
 refine sM 43 #[.slice none 0 0] (λgl=>?_)
 refine sG<|Sy.seq<|sC ?_
 refine sp rfl<|sp rfl<|sp rfl ?_
 refine Sy.callN kR 187 #[ptr gr,.int .i64 (most:Int),.func (.func 136) #[] #[ptr g7,ptr g4]] kF _ (λw _=>items_r_sgs w gr most g4 g7) (λv M hM=>?_)
 obtain ⟨a,b,c,rfl,rfl⟩:=hM
 refine Sy.nil<|Sy.then_<|Sy.block ?_
 obtain ⟨R1,hR1⟩:∃ R1,R1=R++[(a,132,#[ptr gr]),(b,3,#[.int .i64 (most:Int)]),(c,269,#[.func (.func 136) #[] #[ptr g7,ptr g4]])]:=⟨_,rfl⟩
 refine Sy.permC (M:=LBL gc gr gl 43 nilS s0.e sl0 R1 []) (by rw [hR1]; exact permLB) ?_
 have mR:∀ x∈R,x∈R1:=λx hx=>by rw [hR1]; exact List.mem_append_left _ hx
 have ma:(a,132,#[ptr gr])∈R1:=by rw [hR1]; simp
 have mb:(b,3,#[.int .i64 (most:Int)])∈R1:=by rw [hR1]; simp
 have mc:(c,269,#[.func (.func 136) #[] #[ptr g7,ptr g4]])∈R1:=by rw [hR1]; simp
 refine Sy.rangeT (α:=Nat×List Value) (Y:=YL α) (Z:=Nat) 224 #[ptr a,ptr b,ptr c] kR kR (enters_of Tryz.func224 kR rfl) (λv=>#[.int .i64 (v.1:Int),.agg v.2.toArray]) (λ_=>rfl) (by decide)
  (HYL_sgs p rep w0 S 0 s0) (λ_ y=>LBL gc gr gl 43 y.r y.s.e y.sl R1 y.N) (λ_ _ z=>[(7,ptr gl),(9,ptr z)]) (λv y z=>(z,182,v.2.toArray)::LBL gc gr gl 43 y.r y.s.e y.sl R1 y.N) (λ_ y=>HRL_sgs rep y) (λy=>LBL gc gr gl 43 y.r y.s.e y.sl R1 y.N)
  (λy:YL α=>∃ m s1,After (varP most) s0 m s1∧s1.rest.length≤s0.rest.length∧y.l.length≤most∧InvL 182 65 rep p w0 S m s1 y.l.length y∧(y.s.e=0→y.l.length=m)) (λy=>LBL gc gr gl 43 y.r y.s.e y.sl R1 y.N) ?_ ?_ ?_ ?_
 ·exact λlp fz w hw hY=>iter_r_sgs (rep:=rep) (p:=p) hm hp w0 fz gc gr gl g4 g7 a b c most hmost R1 S s0 sl0 (λx h=>mR x (hS x h)) (mR _ h4) (mR _ h7) ma mb mc he hl hv lp w hw hY
 ·rintro lp fz ⟨i,cs⟩ ⟨l,r,s,sl,N,xo⟩ ⟨x,rfl,_,_,_,c1,c2,_⟩
  dsimp only at c1 c2 ⊢
  refine Sy.regionR (by rintro ⟨_,_,h⟩; exact h) kR ⟨_,rfl⟩ ?_
  refine sM 182 ((([Value.int .i64 0]++(List.replicate 64 (0:UInt8)).map bv))).toArray (λz=>?_)
  refine Sy.permS (M:=(z,182,((([Value.int .i64 0]++(List.replicate 64 (0:UInt8)).map bv))).toArray)::LBL gc gr gl 43 r s.e sl R1 N) (List.perm_append_comm (l₂:=[(z,182,((([Value.int .i64 0]++(List.replicate 64 (0:UInt8)).map bv))).toArray)])) ?_
  refine sw 0 rfl cs.toArray (Writes.row 182 cs 65 _ _ rfl kR kR kR c1 (by kernel_rfl) c2) ?_
  refine Sy.nil ?_
  exact apZ z (all_cons kR (all_cons kR all_nil)) (λ_ h=>h)
 ·rintro lp fz ⟨i,cs⟩ ⟨l,r,s,sl,N,xo⟩ z ⟨x,rfl,hli,⟨xs,x1,x2,x3⟩,hx,c1,c2,hi⟩
  dsimp only at c1 c2 hli x1 x2 x3 hx hi ⊢
  refine Sy.block ?_
  refine Sy.regionR (by rintro ⟨_,_,h⟩; exact h) kR ⟨_,rfl⟩ ?_
  refine sS r.v (qc 3 0 rfl rfl Tryz.underlying43)<|sS (.agg cs.toArray) (Quiet.mid 0 z 0 65 182 182 cs cs _ _ rfl kR rfl Tryz.underlying182 rfl kR (by rw [List.drop_zero,List.take_of_length_le (by omega)]) (by omega)) ?_
  refine Sy.make kR 182 cs.toArray (λg=>.slice (some ⟨g,0,none⟩) 1 1) (Makes.one 43 182 _ _ 65 _ cs rfl kR Tryz.underlying43 info_sgs rfl rfl c1 (by decide) (by decide)) (λg8=>?_)
  refine Sy.permS (M:=[(z,182,cs.toArray),(gc,134,#[.pointer none,ptr gr,.bool false]),(gr,253,#[sl,.int .i64 (s.e:Int)]),(gl,43,#[r.v]),(g8,182,cs.toArray)]++(r.bl++(R1++N))) (Sy.flat_perm (ls:=[[(z,182,cs.toArray),(gc,134,#[.pointer none,ptr gr,.bool false]),(gr,253,#[sl,.int .i64 (s.e:Int)]),(gl,43,#[r.v])],r.bl++(R1++N),[(g8,182,cs.toArray)]]) (ms:=[[(z,182,cs.toArray),(gc,134,#[.pointer none,ptr gr,.bool false]),(gr,253,#[sl,.int .i64 (s.e:Int)]),(gl,43,#[r.v])],[(g8,182,cs.toArray)],r.bl++(R1++N)]) [0,2,1] (by kernel_rfl) (by rfl) (by simp) (by simp)) ?_
  refine Sy.appendR kR 43 182 _ _ 65 72 Tryz.underlying43 info_sgs rfl rfl rfl rfl (by decide) _ _ rfl x1 kR cs c1 c2 4 g8 182 kR kR (by omega) (by simp only [maxLen]; omega) (λr' hr'=>?_)
  refine sw 3 rfl #[r'.v] (Writes.one 0 43 r'.v _ _ rfl kR kR kR hr'.cells.1 hr'.cells.2 Nat.zero_lt_one kR) ?_
  refine Sy.setT ?_
  refine Sy.nil<|Sy.in_ ?_
  exact bpZ ⟨l++[x],r',s,sl,N,none⟩ ⟨x,r',rfl,RowsOk.add (rep:=rep) x2 x3 hr' hx,rfl⟩ (λw h=>Sy.St.parts (ls:=[[(z,182,cs.toArray)],[(gc,134,#[.pointer none,ptr gr,.bool false]),(gr,253,#[sl,.int .i64 (s.e:Int)]),(gl,43,#[r'.v])],[(g8,182,cs.toArray)],r'.bl++(R1++N)]) (ms:=[[(gc,134,#[.pointer none,ptr gr,.bool false]),(gr,253,#[sl,.int .i64 (s.e:Int)]),(gl,43,#[r'.v])],r'.bl++(R1++N)]) [[(z,182,cs.toArray)],[(g8,182,cs.toArray)]] [1,3,0,2] (by kernel_rfl) (by rfl) (by simp) (by simp) h)
 ·rintro D fz ⟨l,r,s,sl,N,xo⟩ ⟨m,s1,hA1,hs1,hlm,hI,hdn⟩ hD hD2 hmk h0
  dsimp only at hI hdn hlm ⊢
  have hse:s.e≤200:=hI.e
  have hrest:s.rest.length≤s0.rest.length:=Nat.le_trans hI.rest hs1
  refine Sy.in_<|Sy.then_<|Sy.seq<|sC ?_
  obtain ⟨b1,hb1⟩:∃ z:Bool,z=decide (s.e≠0):=⟨_,rfl⟩
  refine sp rfl<|sS (.int .i64 (s.e:Int)) (qg (λw hw=>err_any (ab w0.world fz D) gr sl s.e [] (List.mem_cons_of_mem _ (List.mem_cons_self ..)) w hw))<|sS (.bool b1) (Quiet.pure (exec_int .neq _ _ _ .i64 _ _ _ rfl rfl rfl (int_neq _ _ _ _ _ (by rw [hb1]; exact decide_eq_decide.2 (by omega))))) ?_
  refine sG ?_
  cases b1
  ·have l1:s.e=0:=Decidable.of_not_not (of_decide_eq_false hb1.symm)
   obtain ⟨z1,z2⟩:=hI.yes l1
   rw [hdn l1] at z2
   refine sU<|Sy.skip<|sB ?_
   refine sS r.v (qc 2 0 rfl rfl Tryz.underlying43)<|sp rfl ?_
   refine sG<|Sy.ret ?_
   refine Sy.retTM1 (b0:=w0) (M:=CRN gc gr sl s.e (R++(N++r.bl))) rfl (.inl (show _=_ by kernel_rfl)) (λw h=>Sy.St.parts (ls:=[[(gc,134,#[.pointer none,ptr gr,.bool false]),(gr,253,#[sl,.int .i64 (s.e:Int)])],[(gl,43,#[r.v])],r.bl,R,[(a,132,#[ptr gr]),(b,3,#[.int .i64 (most:Int)]),(c,269,#[.func (.func 136) #[] #[ptr g7,ptr g4]])],N]) (ms:=[[(gc,134,#[.pointer none,ptr gr,.bool false]),(gr,253,#[sl,.int .i64 (s.e:Int)])],R,N,r.bl]) [[(gl,43,#[r.v])],[(a,132,#[ptr gr]),(b,3,#[.int .i64 (most:Int)]),(c,269,#[.func (.func 136) #[] #[ptr g7,ptr g4]])]] [0,3,5,2,1,4] (by kernel_rfl) (by rfl) (by rw [hR1]; simp) (by simp) h) ⟨l,s,sl,N++r.bl,hA1.bind ⟨λh=>(h z1).elim,λy q _ hy=>?_,λ_ hy=>?_⟩,RowsOk.lst (rep:=rep) hm hI.rows,hse,hrest,hI.byt,rfl⟩ hD hD2 hmk h0.out
   ·rw [z2] at hy
    cases hy
    exact ⟨rfl,by rw [← l1]⟩
   ·rw [z2] at hy; cases hy
  ·have l1:s.e≠0:=of_decide_eq_true hb1.symm
   refine sT<|sC ?_
   refine sP (.slice none 0 0) ?_
   refine sG<|Sy.ret<|Sy.then_ret ?_
   refine Sy.retTM1 (b0:=w0) (M:=CRN gc gr sl s.e (R++[])) rfl (.inl (show _=_ by kernel_rfl)) (λw h=>Sy.St.parts (ls:=[[(gc,134,#[.pointer none,ptr gr,.bool false]),(gr,253,#[sl,.int .i64 (s.e:Int)])],[(gl,43,#[r.v])],r.bl,R,[(a,132,#[ptr gr]),(b,3,#[.int .i64 (most:Int)]),(c,269,#[.func (.func 136) #[] #[ptr g7,ptr g4]])],N]) (ms:=[[(gc,134,#[.pointer none,ptr gr,.bool false]),(gr,253,#[sl,.int .i64 (s.e:Int)])],R]) [[(gl,43,#[r.v])],r.bl,[(a,132,#[ptr gr]),(b,3,#[.int .i64 (most:Int)]),(c,269,#[.func (.func 136) #[] #[ptr g7,ptr g4]])],N] [0,3,1,2,4,5] (by kernel_rfl) (by rfl) (by rw [hR1]; simp) (by simp) h) ⟨[],s,sl,[],hA1.bind ⟨λ_=>l1,λy q h1 hy=>?_,λ_ _=>l1⟩,⟨none,0,0,rfl,rfl,Nat.le_refl _,Nat.zero_le _,λh=>(h rfl).elim⟩,hse,hrest,hI.byt,rfl⟩ hD hD2 hmk h0.out
   rcases hI.no l1 with h | h
   ·exact (h h1).elim
   ·rw [h] at hy; cases hy
theorem list_r_sgs (hm:Mono rep) (hp:GetC 79 65 ((([Value.int .i64 0]++(List.replicate 64 (0:UInt8)).map bv))) rep p) (w0:Base) (gc gr gx f most:Nat) (hmost:most<1000000) (tx:TypeId) (A Z:List Value) (sl:Value) (s:RS) (R S:Blocks) (hS:∀ b∈S,b∈R) (hA:A.length=f) (he:s.e≤200) (hl:s.rest.length≤70368744177664) (hv:BytR (rdC w0 S) sl s.rest) (w:World) (hw:St w0 w (CRS gc gr gx tx (A++([Value.slice none 0 0]++Z)) sl s.e R)) :
  Calls Tryz.prog 78 #[ptr gc,.pointer (some ⟨gx,f,none⟩),.int .i64 (most:Int),.func (.func 79) #[] #[]] w (Turns w0 (RdT 1 (repL 65 rep) (listP most p) w0 gc gr gx tx A Z s R S)):=by
 refine Sy.enterT (args:=[ptr gc,.pointer (some ⟨gx,f,none⟩),.int .i64 (most:Int),.func (.func 79) #[] #[]]) hw Tryz.func78 rfl kL ?_
 refine sC ?_
 refine sM 85 #[ptr gc] (λg4=>?_)
 refine sM 184 #[.func (.func 79) #[] #[]] (λg7=>?_)
 obtain ⟨R1,hR1⟩:∃ R1,R1=R++([(g4,85,#[ptr gc])]++[(g7,184,#[.func (.func 79) #[] #[]])]):=⟨_,rfl⟩
 refine Sy.permS (M:=CRS gc gr gx tx (A++([Value.slice none 0 0]++Z)) sl s.e R1) (List.Perm.of_eq (by rw [hR1]; simp)) ?_
 have mR:∀ x∈R,x∈R1:=λx hx=>by rw [hR1]; exact List.mem_append_left _ hx
 have m4:(g4,85,#[ptr gc])∈R1:=by rw [hR1]; simp
 have m7:(g7,184,#[.func (.func 79) #[] #[]])∈R1:=by rw [hR1]; simp
 refine sG<|Sy.seq<|sC ?_
 refine sS (ptr gc) (cellC (R:=R1) (mem1 m4) inCR rfl Tryz.underlying85)<|sS (.bool true) (qg (λw hw=>reads_r w0.inn gc gr _ _ (List.mem_cons_self ..) w hw)) ?_
 refine sG<|sT<|sC ?_
 refine sp rfl<|sS (ptr gc) (cellC (R:=R1) (mem1 m4) inCR rfl Tryz.underlying85)<|sp rfl<|sP (.pointer (some ⟨gc,1,none⟩))<|sS (ptr gr) (qc 0 1 rfl rfl Tryz.underlying132)<|sp rfl<|sP (.func (.func 136) #[] #[ptr g7,ptr g4]) ?_
 refine Sy.callT (λw hw=>list9_r_sgs (rep:=rep) (p:=p) hm hp w0.inn gc gr g4 g7 most hmost sl s ((gx,tx,(A++([Value.slice none 0 0]++Z)).toArray)::R1) S (λx h=>List.mem_cons_of_mem _ (mR x (hS x h))) (List.mem_cons_of_mem _ m4) (List.mem_cons_of_mem _ m7) he hl hv w (hw.perm swap23)) (λv M hM=>?_)
 obtain ⟨l,s',sl',N,q1,q2,q3,q4,q5,rfl⟩:=hM
 refine Sy.permS (M:=CRS gc gr gx tx (A++([Value.slice none 0 0]++Z)) sl' s'.e (R1++N)) swap23 ?_
 refine sp rfl<|sw 1 rfl (A++([v]++Z)).toArray (Writes.one f 43 v _ _ rfl kR kR kR q2.cells.1 q2.cells.2 (by rw [List.size_toArray,List.length_append,hA]; exact Nat.lt_add_of_pos_right (Nat.succ_pos _)) (set_mid hA)) ?_
 refine sG<|Sy.ret<|Sy.then_ret ?_
 exact Sy.retT0 rfl (CRS gc gr gx tx (A++([v]++Z)) sl' s'.e (R++N)) (λw h=>Sy.St.parts (ls:=[[(gc,134,#[.pointer none,ptr gr,.bool false]),(gx,tx,(A++([v]++Z)).toArray),(gr,253,#[sl',.int .i64 (s'.e:Int)])],R,[(g4,85,#[ptr gc])]++[(g7,184,#[.func (.func 79) #[] #[]])],N]) (ms:=[[(gc,134,#[.pointer none,ptr gr,.bool false]),(gx,tx,(A++([v]++Z)).toArray),(gr,253,#[sl',.int .i64 (s'.e:Int)])],R,N]) [[(g4,85,#[ptr gc])]++[(g7,184,#[.func (.func 79) #[] #[]])]] [0,1,3,2] (by kernel_rfl) (by rfl) (by rw [hR1]; simp) (by simp) h) (λ_=>⟨l,s',sl',[v],N,q1,rfl,λu hu=>by rw [List.mem_singleton.1 hu]; exact q2.cells.2,⟨v,rfl,q2⟩,q3,q4,q5,rfl⟩)
end
section
variable {α:Type} {rep:Rdr→List Value→α→Prop} {ok:α→Bool} {enc:α→Byt} {wt:α→Nat}
theorem el_w_txs (hm:Mono rep) (hp:PutC 28 3 rep ok enc wt) (w0:Base) (gc gw g4 g7:Nat) (bad:Bool) (s:Slc) (R:Blocks) (b:Byt) (u:Value) (cs:List Value) (x:α) (h4:(g4,85,#[ptr gc])∈R) (h7:(g7,83,#[.func (.func 28) #[] #[]])∈R) (hx:rep (rdC w0 R) cs x) (hl:cs.length=3) (hb:BS s b) (hlen:b.length+wt x≤70368744170000) (w:World) (hw:St w0 w (CWS gc gw bad s R)) :
  Calls Tryz.prog 143 #[u,.agg cs.toArray,ptr g7,ptr g4] w (Turns w0 (WrC gc gw R (ok x) (enc x) (wt x) bad b)):=by
 refine Sy.enterT (args:=[u,.agg cs.toArray,ptr g7,ptr g4]) hw Tryz.func143 rfl kL ?_
 refine sC ?_
 refine sM 26 cs.toArray (λg5=>?_) kR (λw=>run_boxR rfl rfl (by kernel_rfl) hl w)
 refine Sy.permS (List.Perm.of_eq eqCW) ?_
 refine Sy.nil<|Sy.then_<|Sy.region ?_
 refine sS (.func (.func 28) #[] #[]) (cellC (R:=R++[(g5,26,cs.toArray)]) (mem1 (inA h7)) inCW rfl Tryz.underlying83)<|sS (ptr gc) (cellC (R:=R++[(g5,26,cs.toArray)]) (mem1 (inA h4)) inCW rfl Tryz.underlying85) ?_
 refine Sy.callT (λw hw=>hp w0.inn gc gw g5 0 bad s (R++[(g5,26,cs.toArray)]) b cs x (hm (rdC_le (λ_ h=>inA h)) hx) hl (memX lastR) hb hlen w hw) (λv M hM=>?_)
 obtain ⟨s1,bad1,b1,h1,h2,rfl⟩:=hM
 refine Sy.nil ?_
 exact Sy.retT0 rfl (CWS gc gw bad1 s1 R) (λ_ h=>dropR h) (λ_=>⟨s1,bad1,b1,h1,h2,rfl⟩)
end
section
variable {α:Type} {rep:Rdr→List Value→α→Prop} {ok:α→Bool} {enc:α→Byt} {wt:α→Nat}
theorem put_w_txs (hm:Mono rep) (hp:PutC 28 3 rep ok enc wt) (w0:Base) (gc gw g4 g7:Nat) (bad:Bool) (s:Slc) (R:Blocks) (b:Byt) (v:Value) (l:List α) (h4:(g4,85,#[ptr gc])∈R) (h7:(g7,83,#[.func (.func 28) #[] #[]])∈R) (hv:LstR (rdC w0 R) 3 rep v l) (hb:BS s b) (hlen:b.length+(9+(l.map wt).sum)≤70368744170000) (w:World) (hw:St w0 w (CWS gc gw bad s R)) :
  Calls Tryz.prog 142 #[ptr gw,v,.func (.func 143) #[] #[ptr g7,ptr g4]] w (Turns w0 (WrC gc gw R (l.all ok) (varB l.length++l.flatMap enc) (9+(l.map wt).sum) bad b)):=by
 obtain ⟨A,n,cp,rfl,h2,h3,h4',h5⟩:=hv
 have hmx:n<9223372036854775808:=by simp only [maxLen] at h4'; omega
 refine Sy.enterT (args:=[ptr gw,.slice A n cp,.func (.func 143) #[] #[ptr g7,ptr g4]]) hw Tryz.func142 rfl kL ?_
 refine sC ?_
 refine sp rfl<|sp rfl<|sP (.int .i64 (n:Int))<|sS (.int .u64 (n:Int)) (Quiet.pure (λw=>conv_i6 w _ _ _ n (by omega) rfl rfl)) ?_
 refine Sy.callT (λw hw=>var_any w0.inn gw s ((gc,134,#[ptr gw,.pointer none,.bool bad])::R) b n (by omega) hb (by omega) w (hw.perm permCW)) (λu M hM=>?_)
 obtain ⟨s1,hs1,rfl⟩:=hM
 have hn9:=varB_len n
 refine Sy.permS permCW.symm ?_
 refine Sy.nil<|sB ?_
 refine sp rfl<|sP (.int .i64 (n:Int))<|sP (.int .i64 0) ?_
 refine sG<|Sy.block ?_
 have hw0:Wrote true (varB n) 9 bad b bad (b++varB n):=Wrote.raw _ _ _ hn9
 have hsum:∀ i,((l.take i).map wt).sum≤(l.map wt).sum:=λi=>by
  have e:=congrArg (λz=>(z.map wt).sum) (List.take_append_drop i l)
  simp only [List.map_append,List.sum_append] at e
  omega
 refine Sy.loopT (Y:=Slc×Bool×Byt) n (λi y=>[(0,ptr gw),(2,.func (.func 143) #[] #[ptr g7,ptr g4]),(13,.slice A n cp),(14,.int .i64 (n:Int)),(15,.int .i64 (i:Int))]) (λi y=>CWS gc gw y.2.1 y.1 R) (λi y=>Wrote ((l.take i).all ok) (varB n++(l.take i).flatMap enc) (9+((l.take i).map wt).sum) bad b y.2.1 y.2.2∧BS y.1 y.2.2) (s1,bad,b++varB n) ⟨by
  have e:Wrote ((l.take 0).all ok) (varB n++(l.take 0).flatMap enc) (9+((l.take 0).map wt).sum) bad b bad (b++varB n):=by
   rw [List.take_zero]
   simpa using hw0
  exact e,hs1⟩ (all_cons kR (all_cons kR (all_cons kR (all_cons kR (all_cons kR all_nil))))) (λ_ h=>h) (λi y hi hy=>?_)
 obtain ⟨sy,bady,by_⟩:=y
 obtain ⟨hy,hsy⟩:=hy
 dsimp only at hy hsy ⊢
 refine sC ?_
 obtain ⟨b2,hb2⟩:∃ z:Bool,z=decide (i<n):=⟨_,rfl⟩
 refine sS (.bool b2) (Quiet.pure (exec_int .lss _ _ _ .i64 _ _ _ rfl rfl rfl (int_lss _ _ _ _ _ (by rw [hb2]; exact decide_eq_decide.2 (by omega))))) ?_
 refine sG<|Sy.seq ?_
 cases b2
 case' false =>
  have l2:¬ i<n:=of_decide_eq_false hb2.symm
  obtain rfl:i=n:=by omega
  rw [List.take_of_length_le (by omega)] at hy
  refine sU<|Sy.exit<|Sy.then_exit<|Sy.then_exit<|Sy.in_exit ?_
  rw [h2]
  exact Sy.retT0 rfl (CWS gc gw bady sy R) (λ_ h=>h) (λ_=>⟨sy,bady,by_,hy,hsy,rfl⟩)
 have l2:i<n:=of_decide_eq_true hb2.symm
 obtain ⟨x,hx⟩:∃ x,l[i]? = some x:=⟨_,List.getElem?_eq_getElem (by omega)⟩
 obtain ⟨g,o,rfl,hq⟩:=h5 (by intro e; rw [e] at hx; cases hx)
 obtain ⟨cs,c1,c2,c3,c4⟩:=hq i x hx
 have htk:l.take (i+1)=l.take i++[x]:=by rw [List.take_add_one,hx]; rfl
 have hsi:=hsum (i+1)
 rw [htk] at hsi
 simp only [List.map_append,List.sum_append,List.map_cons,List.map_nil,List.sum_cons,List.sum_nil] at hsi
 refine sT<|Sy.skip<|Sy.then_<|Sy.seq<|Sy.block<|sC ?_
 refine sS (.pointer (some ⟨g,o+i*3,none⟩)) (Quiet.pure (exec_atO 44 _ _ _ (some ⟨g,o,none⟩) g o n cp i 3 .i64 rfl rfl rfl rfl Tryz.underlying44 kF l2))<|sS (.agg cs.toArray) (rowC (R:=R) c4 inCW c1 rfl Tryz.underlying26) ?_
 refine sM 26 ([Value.int .u64 0]++([Value.slice none 0 0]++([Value.slice none 0 0]))).toArray (λg9=>?_)
 refine Sy.permS (List.Perm.of_eq eqCW) ?_
 refine Sy.permS (List.perm_append_comm (l₁:=CWS gc gw bady sy R) (l₂:=[(g9,26,([Value.int .u64 0]++([Value.slice none 0 0]++([Value.slice none 0 0]))).toArray)]) |> λh=>(List.Perm.of_eq eqCW.symm).trans h) ?_
 refine sw 0 rfl cs.toArray (Writes.row 26 cs 3 _ _ rfl kR kR kR c1 (by kernel_rfl) c2) ?_
 refine Sy.permS ((List.perm_append_comm (l₁:=[(g9,26,cs.toArray)]) (l₂:=CWS gc gw bady sy R)).trans (List.Perm.of_eq eqCW)) ?_
 refine Sy.nil<|Sy.then_<|Sy.region ?_
 refine sp rfl<|sp rfl<|sS (.agg cs.toArray) (rowC (R:=R++[(g9,26,cs.toArray)]) (memX lastR) inCW c1 rfl Tryz.underlying26) ?_
 refine Sy.callT (λw hw=>el_w_txs (rep:=rep) (ok:=ok) (enc:=enc) (wt:=wt) hm hp w0.inn gc gw g4 g7 bady sy (R++[(g9,26,cs.toArray)]) by_ (ptr gw) cs x (inA h4) (inA h7) (hm (rdC_le (λ_ h=>inA h)) c3) c1 hsy (by have hyl:=hy.len; omega) w hw) (λv M hM=>?_)
 obtain ⟨s3,bad3,b3,q1,q2,rfl⟩:=hM
 refine Sy.nil<|Sy.in_<|Sy.then_<|Sy.region ?_
 refine sS (.int .i64 ((i+1:Nat):Int)) (Quiet.pure (exec_int .add _ _ _ .i64 _ _ _ rfl rfl rfl (int_add _ _ _ _ _ ((wrap_i64 (by omega) (by omega)).trans (by omega)))))<|sp rfl ?_
 refine Sy.nil ?_
 have hW:=hy.then_ q1
 have hW':Wrote ((l.take (i+1)).all ok) (varB n++(l.take (i+1)).flatMap enc) (9+((l.take (i+1)).map wt).sum) bad b bad3 b3:=by
  rw [htk]
  simp only [List.all_append,List.flatMap_append,List.map_append,List.sum_append,List.all_cons,List.all_nil,List.flatMap_cons,List.flatMap_nil,List.map_cons,List.map_nil,List.sum_cons,List.sum_nil,Bool.and_true,List.append_nil,Nat.add_zero, ← List.append_assoc, ← Nat.add_assoc]
  simpa only [List.append_assoc,Nat.add_assoc] using hW
 exact Sy.againT (s3,bad3,b3) l2 ⟨hW',q2⟩ (all_cons kR (all_cons kR (all_cons kR (all_cons kR (all_cons kR all_nil))))) (λw h=>dropR h)
theorem list_w_txs (hm:Mono rep) (hp:PutC 28 3 rep ok enc wt) (w0:Base) (gc gw gx f most:Nat) (hmo:most<1000000) (bad:Bool) (s:Slc) (R:Blocks) (b:Byt) (v:Value) (l:List α) (hv:LstR (rdC w0 R) 3 rep v l) (hc:rdC w0 R gx f v) (hb:BS s b) (hlen:b.length+(9+(l.map wt).sum)≤70368744170000) (w:World) (hw:St w0 w (CWS gc gw bad s R)) :
  Calls Tryz.prog 80 #[ptr gc,.pointer (some ⟨gx,f,none⟩),.int .i64 (most:Int),.func (.func 28) #[] #[]] w (Turns w0 (WrC gc gw R (decide (l.length≤most) && l.all ok) (varB l.length++l.flatMap enc) (9+(l.map wt).sum) bad b)):=by
 have hv0:=hv
 obtain ⟨A,n,cp,rfl,h2,h3,h4',h5⟩:=hv
 refine Sy.enterT (args:=[ptr gc,.pointer (some ⟨gx,f,none⟩),.int .i64 (most:Int),.func (.func 28) #[] #[]]) hw Tryz.func80 rfl kL ?_
 refine sC ?_
 refine sM 85 #[ptr gc] (λg4=>?_)
 refine Sy.permS (List.Perm.of_eq eqCW) ?_
 refine sM 83 #[.func (.func 28) #[] #[]] (λg7=>?_)
 refine Sy.permS (List.Perm.of_eq eqCW) ?_
 obtain ⟨R1,hR1⟩:∃ R1,R1=R++[(g4,85,#[ptr gc])]++[(g7,83,#[.func (.func 28) #[] #[]])]:=⟨_,rfl⟩
 rw [← hR1]
 have m4:(g4,85,#[ptr gc])∈R1:=by rw [hR1]; exact inA lastR
 have m7:(g7,83,#[.func (.func 28) #[] #[]])∈R1:=by rw [hR1]; exact lastR
 have mR:∀ x∈R,x∈R1:=λx hx=>by rw [hR1]; exact inA (inA hx)
 have hv1:LstR (rdC w0 R1) 3 rep (.slice A n cp) l:=LstR.le (rep:=rep) hm (rdC_le mR) hv0
 have hc1:rdC w0 R1 gx f (.slice A n cp):=rdC_le mR _ _ _ hc
 have back:∀ {w:World} {bad':Bool} {s':Slc},St w0 w (CWS gc gw bad' s' R1)→St w0 w (CWS gc gw bad' s' R):=λh=>by
  rw [hR1,List.append_assoc] at h
  exact dropR h
 refine sG<|Sy.seq<|sC ?_
 refine sS (ptr gc) (cellC (R:=R1) (mem1 m4) inCW rfl Tryz.underlying85)<|sS (.bool false) (qg (λw hw=>reads_w w0.inn gc _ _ (List.mem_cons_self ..) w hw)) ?_
 refine sG<|sU<|Sy.skip ?_
 obtain ⟨b1,hb1⟩:∃ z:Bool,z=decide (n≤most):=⟨_,rfl⟩
 refine sR (λj=>j == 7) ?_
 refine sD 0 rfl (ptr gc) (cellC (R:=R1) (mem1 m4) inCW rfl Tryz.underlying85)<|sa 1 rfl rfl<|sa 2 rfl rfl<|se 3 [4,6,7] rfl (.slice A n cp) (cellC (R:=R1) hc1 inCW rfl Tryz.underlying44)<|sb 4 rfl (.int .i64 (n:Int))<|sa 5 rfl rfl ?_
 refine sv 6 rfl (.bool b1) (exec_int .leq _ _ _ .i64 _ _ _ rfl rfl rfl (int_leq _ _ _ _ _ (by rw [hb1]; exact decide_eq_decide.2 (by omega)))) ?_
 refine Sy.soleD 7 rfl (λQ2 hq2=>?_)
 refine Sy.callT (λw hw=>must_w w0.inn gc gw bad b1 s R1 w hw) (λu M hM=>?_)
 subst hM
 refine hq2 _ _ ?_
 refine sE ?_
 obtain ⟨bad1,hbad1⟩:∃ x,x=(bad || !b1):=⟨_,rfl⟩
 rw [← hbad1]
 refine sB ?_
 refine sS (ptr gc) (cellC (R:=R1) (mem1 m4) inCW rfl Tryz.underlying85)<|sp rfl<|sP (.pointer (some ⟨gc,2,none⟩))<|sS (.bool bad1) (qc 0 2 rfl rfl Tryz.underlying4)<|sP (.bool (!bad1)) ?_
 refine sG ?_
 cases bad1
 ·have hb1t:bad=false∧b1=true:=by cases bad <;> cases b1 <;> first | exact ⟨rfl,rfl⟩ | cases hbad1
  obtain ⟨rfl,rfl⟩:=hb1t
  have e1:decide (l.length≤most)=true:=by rw [h2, ← hb1]
  rw [e1,Bool.true_and]
  refine sT ?_
  refine Sy.regionD (λj=>j == 8) kR ?_
  refine se 0 [1,2,3,8] rfl (ptr gc) (cellC (R:=R1) (mem1 m4) inCW rfl Tryz.underlying85)<|sa 1 rfl rfl<|sb 2 rfl (.pointer (some ⟨gc,0,none⟩))<|sD 3 rfl (ptr gw) (qc 0 0 rfl rfl Tryz.underlying130)<|sa 4 rfl rfl<|sa 5 rfl rfl<|sD 6 rfl (.slice A n cp) (cellC (R:=R1) hc1 inCW rfl Tryz.underlying44)<|sb 7 rfl (.func (.func 143) #[] #[ptr g7,ptr g4]) ?_
  refine Sy.soleD 8 rfl (λQ2 hq2=>?_)
  refine Sy.callT (λw hw=>put_w_txs (rep:=rep) hm hp w0.inn gc gw g4 g7 false s R1 b (.slice A n cp) l m4 m7 hv1 hb hlen w hw) (λu M hM=>?_)
  obtain ⟨s1,bad2,b2,q1,q2,rfl⟩:=hM
  refine hq2 _ _ ?_
  refine sE ?_
  exact Sy.retT0 rfl (CWS gc gw bad2 s1 R) (λ_ h=>back h) (λ_=>⟨s1,bad2,b2,q1,q2,rfl⟩)
 ·refine sU<|Sy.skip ?_
  have e1:true=(bad || !(decide (l.length≤most) && l.all ok)):=by
   rw [h2, ← hb1]
   cases bad
   ·cases b1
    ·rfl
    ·cases hbad1
   ·rfl
  exact Sy.retT0 rfl (CWS gc gw true s R) (λ_ h=>back h) (λ_=>⟨s,true,b,⟨e1,λh=>(by cases h),by omega⟩,hb,rfl⟩)
end
section
variable {α:Type} {rep:Rdr→List Value→α→Prop} {p:Ps α}
theorem el_r_txs (hm:Mono rep) (hp:GetC 28 3 (([Value.int .u64 0]++([Value.slice none 0 0]++([Value.slice none 0 0])))) rep p) (w0:Base) (gc gr g4 g7:Nat) (sl:Value) (s:RS) (R S:Blocks) (hS:∀ b∈S,b∈R) (h4:(g4,85,#[ptr gc])∈R) (h7:(g7,83,#[.func (.func 28) #[] #[]])∈R) (he:s.e≤200) (hl:s.rest.length≤70368744177664) (hv:BytR (rdC w0 S) sl s.rest) (u:Value) (w:World) (hw:St w0 w (CRN gc gr sl s.e R)) :
  Calls Tryz.prog 141 #[u,ptr g7,ptr g4] w (Turns w0 (RdV 3 rep p w0 gc gr s R S)):=by
 refine Sy.enterT (args:=[u,ptr g7,ptr g4]) hw Tryz.func141 rfl kL ?_
 refine sC ?_
 refine sM 26 (([Value.int .u64 0]++([Value.slice none 0 0]++([Value.slice none 0 0])))).toArray (λga=>?_)
 refine sA ?_
 refine sM 26 (([Value.int .u64 0]++([Value.slice none 0 0]++([Value.slice none 0 0])))).toArray (λgb=>?_)
 refine Sy.permS (M:=CRS gc gr gb 26 ([]++((([Value.int .u64 0]++([Value.slice none 0 0]++([Value.slice none 0 0]))))++[])) sl s.e ((ga,26,(([Value.int .u64 0]++([Value.slice none 0 0]++([Value.slice none 0 0])))).toArray)::R)) permEl ?_
 refine sA ?_
 refine sS (.func (.func 28) #[] #[]) (cellC (R:=(ga,26,(([Value.int .u64 0]++([Value.slice none 0 0]++([Value.slice none 0 0])))).toArray)::R) (mem1 (List.mem_cons_of_mem _ h7)) inCR rfl Tryz.underlying83)<|sS (ptr gc) (cellC (R:=(ga,26,(([Value.int .u64 0]++([Value.slice none 0 0]++([Value.slice none 0 0])))).toArray)::R) (mem1 (List.mem_cons_of_mem _ h4)) inCR rfl Tryz.underlying85) ?_
 refine Sy.callT (λw hw=>hp w0.inn gc gr gb 0 26 [] [] sl s ((ga,26,(([Value.int .u64 0]++([Value.slice none 0 0]++([Value.slice none 0 0])))).toArray)::R) S (λb h=>List.mem_cons_of_mem _ (hS b h)) rfl he hl hv w hw) (λv M hM=>?_)
 obtain ⟨x,s',sl',cs,N,q1,q2,q3,q4,q5,q6,q7,rfl⟩:=hM
 rw [List.append_nil]
 refine sA ?_
 refine sS (.agg cs.toArray) (Quiet.mid 1 gb 0 3 26 26 cs cs _ _ rfl kR rfl Tryz.underlying26 rfl kR (by rw [List.drop_zero,List.take_of_length_le (by omega)]) (by omega))<|sw 3 rfl cs.toArray (Writes.row 26 cs 3 _ _ rfl kR kR kR q2 (by kernel_rfl) q3) ?_
 refine sG<|Sy.ret ?_
 exact Sy.retT1 (CRN gc gr sl' s'.e (R++N)) rfl (.inl (Sy.Res.cell (ty':=26) ga 3 cs.toArray _ (by kernel_rfl) rfl Tryz.underlying26 rfl (by rw [List.size_toArray,q2]; kernel_rfl) rfl)) (λw h=>h.less (((List.Sublist.refl _).cons _ |>.cons_cons _).cons _ |>.cons_cons _)) ⟨x,s',sl',cs,N,q1,q2,q3,q4,rfl,q5,q6,q7,rfl⟩
theorem items_r_txs (w:World) (gr most g4 g7:Nat):Calls Tryz.prog 190 #[ptr gr,.int .i64 (most:Int),.func (.func 141) #[] #[ptr g7,ptr g4]] w (GetsN w (λv M=>∃ a b c,v=.func (.func 225) #[] #[ptr a,ptr b,ptr c]∧M=[(a,132,#[ptr gr]),(b,3,#[.int .i64 (most:Int)]),(c,273,#[.func (.func 141) #[] #[ptr g7,ptr g4]])])):=by
 refine Sy.enter (args:=[ptr gr,.int .i64 (most:Int),.func (.func 141) #[] #[ptr g7,ptr g4]]) Tryz.func190 rfl kL ?_
 refine sC ?_
 refine sM 132 #[ptr gr] (λa=>?_)
 refine sM 3 #[.int .i64 (most:Int)] (λb=>?_)
 refine sM 273 #[.func (.func 141) #[] #[ptr g7,ptr g4]] (λc=>?_)
 refine sP .nilFunc ?_
 refine sA ?_
 refine sP (.func (.func 225) #[] #[ptr a,ptr b,ptr c])<|sp rfl ?_
 refine sG<|Sy.ret ?_
 exact Sy.retGM _ rfl (.inl (show _=_ by kernel_rfl)) (λ_ h=>h) ⟨a,b,c,rfl,rfl⟩
noncomputable def inf_txs:TypeInfo:=(Tryz.prog.info? 26).getD default
theorem info_txs:Tryz.prog.info? 26=some inf_txs:=by kernel_rfl
def HYL_txs (p:Ps α) (rep:Rdr→List Value→α→Prop) (w0:Base) (S:Blocks) (m:Nat) (s1:RS) (v:Nat×List Value) (y:YL α):Prop:=∃ x,y.x=some x∧y.l.length=v.1∧RowsOk 26 3 rep y.r y.N y.l∧rep (rdB y.N) v.2 x∧v.2.length=3∧(∀ u∈v.2,u.oneCell'=true)∧v.1<1000000
def HRL_txs (rep:Rdr→List Value→α→Prop) (y y':YL α):Prop:=∃ x r',y.x=some x∧RowsOk 26 3 rep r' y.N (y.l++[x])∧y'={ y with l:=y.l++[x],r:=r',x:=none }
theorem iter_r_txs (hm:Mono rep) (hp:GetC 28 3 (([Value.int .u64 0]++([Value.slice none 0 0]++([Value.slice none 0 0])))) rep p) (w0:Base) (fz:World) (gc gr gl g4 g7 a b c most:Nat) (hmost:most<1000000) (R S:Blocks) (s0:RS) (sl0:Value) (hS:∀ x∈S,x∈R) (h4:(g4,85,#[ptr gc])∈R) (h7:(g7,83,#[.func (.func 28) #[] #[]])∈R) (ha:(a,132,#[ptr gr])∈R) (hb:(b,3,#[.int .i64 (most:Int)])∈R) (hc:(c,273,#[.func (.func 141) #[] #[ptr g7,ptr g4]])∈R) (he:s0.e≤200) (hl:s0.rest.length≤70368744177664) (hv:BytR (rdC w0 S) sl0 s0.rest) (lp:Nat) (w:World) (hw:St (ib w0.world fz) w (LBL gc gr gl 44 nilS s0.e sl0 R []))
  (hY:∀ (v:Nat×List Value) (y:YL α) (W:World),(HYL_txs p rep w0 S 0 s0 v y)→St (ib w0.world fz) W (LBL gc gr gl 44 y.r y.s.e y.sl R y.N)→YieldAt Fence.wide 7 Tryz.prog lp #[.int .i64 (v.1:Int),.agg v.2.toArray] W (RoundT w0.world fz (HRL_txs rep y) (λy=>LBL gc gr gl 44 y.r y.s.e y.sl R y.N))) :
  CallsIn Fence.wide 8 Tryz.prog 225 #[.func (.yield lp) #[] #[],ptr a,ptr b,ptr c] w (DoneT w0.world fz (λy:YL α=>∃ m s1,After (varP most) s0 m s1∧s1.rest.length≤s0.rest.length∧y.l.length≤most∧InvL 26 3 rep p w0 S m s1 y.l.length y∧(y.s.e=0→y.l.length=m)) (λy=>LBL gc gr gl 44 y.r y.s.e y.sl R y.N)):=by
 refine Sy.enterI (args:=[.func (.yield lp) #[] #[],ptr a,ptr b,ptr c]) hw Tryz.func225 rfl kL ?_
 refine sC ?_
 refine sS (ptr gr) (cellC (R:=R) (mem1 ha) lbl_in rfl Tryz.underlying132)<|sS (.int .i64 (most:Int)) (cellC (R:=R) (mem1 hb) lbl_in rfl Tryz.underlying3) ?_
 refine Sy.callT (λw hw=>count_any (ib w0.world fz) gr sl0 s0 ((gc,134,#[.pointer none,ptr gr,.bool false])::(gl,44,#[.slice none 0 0])::(R++[])) S (λx h=>List.mem_cons_of_mem _ (List.mem_cons_of_mem _ (List.mem_append_left _ (hS x h)))) most hmost he hv w (hw.perm swap12)) (λu M hM=>?_)
 obtain ⟨m,s1,sl1,hA1,⟨rfl,hm1⟩,hs1e,hs1r,hs1b,rfl⟩:=hM
 refine Sy.permS (M:=LBL gc gr gl 44 nilS s1.e sl1 R []) swap12.symm ?_
 refine sp rfl ?_
 refine sA ?_
 refine sP (.int .i64 0) ?_
 refine sG<|Sy.block ?_
 refine Sy.loopT (Y:=YL α) m (λi y=>[(0,.func (.yield lp) #[] #[]),(1,ptr a),(2,ptr b),(3,ptr c),(5,.int .i64 (m:Int)),(6,.int .i64 (i:Int))]) (λi y=>LBL gc gr gl 44 y.r y.s.e y.sl R y.N) (λi y=>InvL 26 3 rep p w0 S m s1 i y) ⟨[],nilS,s1,sl1,[],none⟩ ⟨rfl,RowsOk.nil,λh=>⟨h,rfl⟩,λh=>.inl h,hs1e,Nat.le_refl _,hs1b⟩ (all_cons kR (all_cons kR (all_cons kR (all_cons kR (all_cons kR (all_cons kR all_nil)))))) (λ_ h=>h) (λi y hi hy=>?_)
 obtain ⟨l,r,s,sl,N,xo⟩:=y
 have hylen:l.length=i:=hy.len
 refine Sy.seq<|sC ?_
 obtain ⟨b1,hb1⟩:∃ z:Bool,z=decide (i<m):=⟨_,rfl⟩
 refine sp rfl<|sp rfl<|sS (.bool b1) (Quiet.pure (exec_int .lss _ _ _ .i64 _ _ _ rfl rfl rfl (int_lss _ _ _ _ _ (by rw [hb1]; exact decide_eq_decide.2 (by omega)))))<|sp rfl ?_
 cases b1
 case' false =>
  have l1:¬ i<m:=of_decide_eq_false hb1.symm
  obtain rfl:i=m:=by omega
  refine sN<|sN<|sN<|sP (.bool false) ?_
  refine sG<|sU<|Sy.exit<|Sy.then_exit<|Sy.then_exit<|Sy.in_exit ?_
  exact Sy.retI rfl (λv w h=>⟨⟨_,rfl⟩,⟨l,r,s,sl,N,xo⟩,⟨i,s1,hA1,hs1r,by show l.length≤most; omega,by rw [show (⟨l,r,s,sl,N,xo⟩:YL α).l.length=i from hylen]; exact hy,λ_=>hylen⟩,h⟩) (.inr rfl)
 have l1:i<m:=of_decide_eq_true hb1.symm
 obtain ⟨b2,hb2⟩:∃ z:Bool,z=decide (s.e=0):=⟨_,rfl⟩
 have hse:s.e≤200:=hy.e
 refine sS (ptr gr) (cellC (R:=R) (mem1 ha) lbl_in rfl Tryz.underlying132)<|sS (.int .i64 (s.e:Int)) (qg (λw hw=>err_any (ib w0.world fz) gr sl s.e [] (List.mem_cons_of_mem _ (List.mem_cons_self ..)) w hw))<|sS (.bool b2) (Quiet.pure (exec_int .eql _ _ _ .i64 _ _ _ rfl rfl rfl (int_eql _ _ _ _ _ (by rw [hb2]; exact decide_eq_decide.2 (by omega)))))<|sP (.bool b2) ?_
 refine sG ?_
 cases b2
 case' false =>
  have l2:s.e≠0:=of_decide_eq_false hb2.symm
  refine sU<|Sy.exit<|Sy.then_exit<|Sy.then_exit<|Sy.in_exit ?_
  exact Sy.retI rfl (λv w h=>⟨⟨_,rfl⟩,⟨l,r,s,sl,N,xo⟩,⟨m,s1,hA1,hs1r,by show l.length≤most; omega,by rw [show (⟨l,r,s,sl,N,xo⟩:YL α).l.length=i from hylen]; exact hy,λh=>(l2 h).elim⟩,h⟩) (.inr rfl)
 have l2:s.e=0:=of_decide_eq_true hb2.symm
 obtain ⟨hs10,hrep⟩:=hy.yes l2
 refine sT<|Sy.skip<|Sy.then_<|Sy.seq<|Sy.block<|sC ?_
 refine sS (.func (.func 141) #[] #[ptr g7,ptr g4]) (cellC (R:=R) (mem1 hc) lbl_in rfl Tryz.underlying273)<|sS (ptr gr) (cellC (R:=R) (mem1 ha) lbl_in rfl Tryz.underlying132) ?_
 refine Sy.callT (λw hw=>el_r_txs (rep:=rep) (p:=p) hm hp (ib w0.world fz) gc gr g4 g7 sl s ((gl,44,#[r.v])::(r.bl++(R++N))) S (λx h=>List.mem_cons_of_mem _ (List.mem_append_right _ (List.mem_append_left _ (hS x h)))) (List.mem_cons_of_mem _ (List.mem_append_right _ (List.mem_append_left _ h4))) (List.mem_cons_of_mem _ (List.mem_append_right _ (List.mem_append_left _ h7))) hse (Nat.le_trans (Nat.le_trans hy.rest hs1r) hl) hy.byt (ptr gr) w hw) (λu M hM=>?_)
 obtain ⟨x,s',sl',cs,N1,q1,q2,q3,q4,rfl,q5,q6,q7,rfl⟩:=hM
 obtain ⟨st1,st2⟩:=rep_step hrep l2 q1
 refine sM 26 (([Value.int .u64 0]++([Value.slice none 0 0]++([Value.slice none 0 0])))).toArray (λgb=>?_)
 refine Sy.permS (M:=(gb,26,(([Value.int .u64 0]++([Value.slice none 0 0]++([Value.slice none 0 0])))).toArray)::LBL gc gr gl 44 r s'.e sl' R (N++N1)) ((List.perm_append_comm (l₂:=[(gb,26,(([Value.int .u64 0]++([Value.slice none 0 0]++([Value.slice none 0 0])))).toArray)])).trans (List.Perm.cons _ (List.Perm.of_eq (by simp only [List.cons_append,List.append_assoc,List.nil_append]; rfl)))) ?_
 refine sw 0 rfl cs.toArray (Writes.row 26 cs 3 _ _ rfl kR kR kR q2 (by kernel_rfl) q3) ?_
 refine Sy.nil<|Sy.then_ ?_
 have hR2:RowsOk 26 3 rep r (N++N1) l:=RowsOk.more (rep:=rep) hm hy.rows (λb h=>List.mem_append_left _ h)
 have hx2:rep (rdB (N++N1)) cs x:=hm (rdB_le λb h=>List.mem_append_right _ h) q4
 have drop1:∀ {w:World},St (ib w0.world fz) w ((gb,26,cs.toArray)::LBL gc gr gl 44 r s'.e sl' R (N++N1))→St (ib w0.world fz) w (LBL gc gr gl 44 r s'.e sl' R (N++N1)):=λh=>h.less (List.sublist_cons_self _ _)
 obtain ⟨b3,hb3⟩:∃ z:Bool,z=decide (s'.e≠0):=⟨_,rfl⟩
 have inl:∀ b∈R,b∈(gb,26,cs.toArray)::LBL gc gr gl 44 r s'.e sl' R (N++N1):=λb h=>List.mem_cons_of_mem _ (lbl_in b h)
 refine Sy.seq ?_
 cases b3
 case' true =>
  have l3:s'.e≠0:=of_decide_eq_true hb3.symm
  refine Sy.region ?_
  refine sS (ptr gr) (cellC (R:=R) (mem1 ha) inl rfl Tryz.underlying132)<|sS (.int .i64 (s'.e:Int)) (qg (λw hw=>err_any (ib w0.world fz) gr sl' s'.e [] (List.mem_cons_of_mem _ (List.mem_cons_of_mem _ (List.mem_cons_self ..))) w hw))<|sS (.bool true) (Quiet.pure (exec_int .neq _ _ _ .i64 _ _ _ rfl rfl rfl (int_neq _ _ _ _ _ (by rw [hb3]; exact decide_eq_decide.2 (by omega)))))<|sp rfl<|sN<|sN<|sN<|sN<|sN<|sP (.bool true) ?_
  refine sG<|sT<|Sy.ret<|Sy.in_ret<|Sy.then_ret<|Sy.then_ret<|Sy.in_ret ?_
  exact Sy.retI rfl (λv w h=>⟨⟨_,rfl⟩,⟨l,r,s',sl',N++N1,none⟩,⟨m,s1,hA1,hs1r,by show l.length≤most; omega,⟨rfl,hR2,λh=>(l3 h).elim,λ_=>.inr (st2 l3 m l1),q5,Nat.le_trans q6 hy.rest,q7⟩,λh=>(l3 h).elim⟩,drop1 h⟩) (.inl rfl)
 have l3:s'.e=0:=Decidable.of_not_not (of_decide_eq_false hb3.symm)
 refine Sy.regionI 7 (by rintro ⟨_,_,⟨_,hv⟩,_⟩; cases hv) kR ?_
 refine sS (ptr gr) (cellC (R:=R) (mem1 ha) inl rfl Tryz.underlying132)<|sS (.int .i64 (s'.e:Int)) (qg (λw hw=>err_any (ib w0.world fz) gr sl' s'.e [] (List.mem_cons_of_mem _ (List.mem_cons_of_mem _ (List.mem_cons_self ..))) w hw))<|sS (.bool false) (Quiet.pure (exec_int .neq _ _ _ .i64 _ _ _ rfl rfl rfl (int_neq _ _ _ _ _ (by rw [hb3]; exact decide_eq_decide.2 (by omega)))))<|sp rfl<|sp rfl<|sp rfl<|sS (.agg cs.toArray) (Quiet.mid 0 gb 0 3 26 26 cs cs _ _ rfl kR rfl Tryz.underlying26 rfl kR (by rw [List.drop_zero,List.take_of_length_le (by omega)]) (by omega)) ?_
 refine Sy.nil ?_
 refine Sy.yieldI (HR:=HRL_txs rep ⟨l,r,s',sl',N++N1,some x⟩) (LR:=λy=>LBL gc gr gl 44 y.r y.s.e y.sl R y.N) rfl (by rintro ⟨_,_,⟨_,hv⟩,_⟩; cases hv) kR kR lp #[.int .i64 (i:Int),.agg cs.toArray] kF (λw hw=>hY (i,cs) ⟨l,r,s',sl',N++N1,some x⟩ w ⟨x,rfl,hylen,hR2,hx2,q2,q3,by show i<1000000; omega⟩ (drop1 hw)) (λy' hy'=>?_)
 obtain ⟨x',r',hx',hr',rfl⟩:=hy'
 obtain rfl:x=x':=by injection hx'
 refine sP (.bool false)<|sP (.bool false) ?_
 refine sG<|sU<|Sy.skip<|Sy.in_<|Sy.then_<|Sy.region ?_
 refine sp rfl<|sS (.int .i64 ((i+1:Nat):Int)) (Quiet.pure (exec_int .add _ _ _ .i64 _ _ _ rfl rfl rfl (int_add _ _ _ _ _ ((wrap_i64 (by omega) (by omega)).trans (by omega)))))<|sp rfl ?_
 refine Sy.nil ?_
 exact Sy.againT ⟨l++[x],r',s',sl',N++N1,none⟩ l1 ⟨by simp [hylen],hr',λ_=>⟨hs10,st1 l3⟩,λh=>(h l3).elim,q5,Nat.le_trans q6 hy.rest,q7⟩ (all_cons kR (all_cons kR (all_cons kR (all_cons kR (all_cons kR (all_cons kR all_nil)))))) (λw h=>h)
theorem list9_r_txs (hm:Mono rep) (hp:GetC 28 3 (([Value.int .u64 0]++([Value.slice none 0 0]++([Value.slice none 0 0])))) rep p) (w0:Base) (gc gr g4 g7 most:Nat) (hmost:most<1000000) (sl0:Value) (s0:RS) (R S:Blocks) (hS:∀ x∈S,x∈R) (h4:(g4,85,#[ptr gc])∈R) (h7:(g7,83,#[.func (.func 28) #[] #[]])∈R) (he:s0.e≤200) (hl:s0.rest.length≤70368744177664) (hv:BytR (rdC w0 S) sl0 s0.rest) (w:World) (hw:St w0 w (CRN gc gr sl0 s0.e R)) :
  Calls Tryz.prog 140 #[ptr gr,.int .i64 (most:Int),.func (.func 141) #[] #[ptr g7,ptr g4]] w (Turns w0 (RdL 3 rep (listP most p) w0 gc gr s0 R S)):=by
 refine Sy.enterTM (args:=[ptr gr,.int .i64 (most:Int),.func (.func 141) #[] #[ptr g7,ptr g4]]) hw Tryz.func140 rfl kL ?_
 refine sC ?_
 refine sP (.slice none 0 0) ?_
 refine sA ?_
 refine sM 44 #[.slice none 0 0] (λgl=>?_)
 refine sG<|Sy.seq<|sC ?_
 refine sp rfl<|sp rfl<|sp rfl ?_
 refine Sy.callN kR 190 #[ptr gr,.int .i64 (most:Int),.func (.func 141) #[] #[ptr g7,ptr g4]] kF _ (λw _=>items_r_txs w gr most g4 g7) (λv M hM=>?_)
 obtain ⟨a,b,c,rfl,rfl⟩:=hM
 refine Sy.nil<|Sy.then_<|Sy.block ?_
 obtain ⟨R1,hR1⟩:∃ R1,R1=R++[(a,132,#[ptr gr]),(b,3,#[.int .i64 (most:Int)]),(c,273,#[.func (.func 141) #[] #[ptr g7,ptr g4]])]:=⟨_,rfl⟩
 refine Sy.permC (M:=LBL gc gr gl 44 nilS s0.e sl0 R1 []) (by rw [hR1]; exact permLB) ?_
 have mR:∀ x∈R,x∈R1:=λx hx=>by rw [hR1]; exact List.mem_append_left _ hx
 have ma:(a,132,#[ptr gr])∈R1:=by rw [hR1]; simp
 have mb:(b,3,#[.int .i64 (most:Int)])∈R1:=by rw [hR1]; simp
 have mc:(c,273,#[.func (.func 141) #[] #[ptr g7,ptr g4]])∈R1:=by rw [hR1]; simp
 refine Sy.rangeT (α:=Nat×List Value) (Y:=YL α) (Z:=Nat) 225 #[ptr a,ptr b,ptr c] kR kR (enters_of Tryz.func225 kR rfl) (λv=>#[.int .i64 (v.1:Int),.agg v.2.toArray]) (λ_=>rfl) (by decide)
  (HYL_txs p rep w0 S 0 s0) (λ_ y=>LBL gc gr gl 44 y.r y.s.e y.sl R1 y.N) (λ_ _ z=>[(7,ptr gl),(9,ptr z)]) (λv y z=>(z,26,v.2.toArray)::LBL gc gr gl 44 y.r y.s.e y.sl R1 y.N) (λ_ y=>HRL_txs rep y) (λy=>LBL gc gr gl 44 y.r y.s.e y.sl R1 y.N)
  (λy:YL α=>∃ m s1,After (varP most) s0 m s1∧s1.rest.length≤s0.rest.length∧y.l.length≤most∧InvL 26 3 rep p w0 S m s1 y.l.length y∧(y.s.e=0→y.l.length=m)) (λy=>LBL gc gr gl 44 y.r y.s.e y.sl R1 y.N) ?_ ?_ ?_ ?_
 ·exact λlp fz w hw hY=>iter_r_txs (rep:=rep) (p:=p) hm hp w0 fz gc gr gl g4 g7 a b c most hmost R1 S s0 sl0 (λx h=>mR x (hS x h)) (mR _ h4) (mR _ h7) ma mb mc he hl hv lp w hw hY
 ·rintro lp fz ⟨i,cs⟩ ⟨l,r,s,sl,N,xo⟩ ⟨x,rfl,_,_,_,c1,c2,_⟩
  dsimp only at c1 c2 ⊢
  refine Sy.regionR (by rintro ⟨_,_,h⟩; exact h) kR ⟨_,rfl⟩ ?_
  refine sM 26 (([Value.int .u64 0]++([Value.slice none 0 0]++([Value.slice none 0 0])))).toArray (λz=>?_)
  refine Sy.permS (M:=(z,26,(([Value.int .u64 0]++([Value.slice none 0 0]++([Value.slice none 0 0])))).toArray)::LBL gc gr gl 44 r s.e sl R1 N) (List.perm_append_comm (l₂:=[(z,26,(([Value.int .u64 0]++([Value.slice none 0 0]++([Value.slice none 0 0])))).toArray)])) ?_
  refine sw 0 rfl cs.toArray (Writes.row 26 cs 3 _ _ rfl kR kR kR c1 (by kernel_rfl) c2) ?_
  refine Sy.nil ?_
  exact apZ z (all_cons kR (all_cons kR all_nil)) (λ_ h=>h)
 ·rintro lp fz ⟨i,cs⟩ ⟨l,r,s,sl,N,xo⟩ z ⟨x,rfl,hli,⟨xs,x1,x2,x3⟩,hx,c1,c2,hi⟩
  dsimp only at c1 c2 hli x1 x2 x3 hx hi ⊢
  refine Sy.block ?_
  refine Sy.regionR (by rintro ⟨_,_,h⟩; exact h) kR ⟨_,rfl⟩ ?_
  refine sS r.v (qc 3 0 rfl rfl Tryz.underlying44)<|sS (.agg cs.toArray) (Quiet.mid 0 z 0 3 26 26 cs cs _ _ rfl kR rfl Tryz.underlying26 rfl kR (by rw [List.drop_zero,List.take_of_length_le (by omega)]) (by omega)) ?_
  refine Sy.make kR 26 cs.toArray (λg=>.slice (some ⟨g,0,none⟩) 1 1) (Makes.one 44 26 _ _ 3 _ cs rfl kR Tryz.underlying44 info_txs rfl rfl c1 (by decide) (by decide)) (λg8=>?_)
  refine Sy.permS (M:=[(z,26,cs.toArray),(gc,134,#[.pointer none,ptr gr,.bool false]),(gr,253,#[sl,.int .i64 (s.e:Int)]),(gl,44,#[r.v]),(g8,26,cs.toArray)]++(r.bl++(R1++N))) (Sy.flat_perm (ls:=[[(z,26,cs.toArray),(gc,134,#[.pointer none,ptr gr,.bool false]),(gr,253,#[sl,.int .i64 (s.e:Int)]),(gl,44,#[r.v])],r.bl++(R1++N),[(g8,26,cs.toArray)]]) (ms:=[[(z,26,cs.toArray),(gc,134,#[.pointer none,ptr gr,.bool false]),(gr,253,#[sl,.int .i64 (s.e:Int)]),(gl,44,#[r.v])],[(g8,26,cs.toArray)],r.bl++(R1++N)]) [0,2,1] (by kernel_rfl) (by rfl) (by simp) (by simp)) ?_
  refine Sy.appendR kR 44 26 _ _ 3 56 Tryz.underlying44 info_txs rfl rfl rfl rfl (by decide) _ _ rfl x1 kR cs c1 c2 4 g8 26 kR kR (by omega) (by simp only [maxLen]; omega) (λr' hr'=>?_)
  refine sw 3 rfl #[r'.v] (Writes.one 0 44 r'.v _ _ rfl kR kR kR hr'.cells.1 hr'.cells.2 Nat.zero_lt_one kR) ?_
  refine Sy.setT ?_
  refine Sy.nil<|Sy.in_ ?_
  exact bpZ ⟨l++[x],r',s,sl,N,none⟩ ⟨x,r',rfl,RowsOk.add (rep:=rep) x2 x3 hr' hx,rfl⟩ (λw h=>Sy.St.parts (ls:=[[(z,26,cs.toArray)],[(gc,134,#[.pointer none,ptr gr,.bool false]),(gr,253,#[sl,.int .i64 (s.e:Int)]),(gl,44,#[r'.v])],[(g8,26,cs.toArray)],r'.bl++(R1++N)]) (ms:=[[(gc,134,#[.pointer none,ptr gr,.bool false]),(gr,253,#[sl,.int .i64 (s.e:Int)]),(gl,44,#[r'.v])],r'.bl++(R1++N)]) [[(z,26,cs.toArray)],[(g8,26,cs.toArray)]] [1,3,0,2] (by kernel_rfl) (by rfl) (by simp) (by simp) h)
 ·rintro D fz ⟨l,r,s,sl,N,xo⟩ ⟨m,s1,hA1,hs1,hlm,hI,hdn⟩ hD hD2 hmk h0
  dsimp only at hI hdn hlm ⊢
  have hse:s.e≤200:=hI.e
  have hrest:s.rest.length≤s0.rest.length:=Nat.le_trans hI.rest hs1
  refine Sy.in_<|Sy.then_<|Sy.seq<|sC ?_
  obtain ⟨b1,hb1⟩:∃ z:Bool,z=decide (s.e≠0):=⟨_,rfl⟩
  refine sp rfl<|sS (.int .i64 (s.e:Int)) (qg (λw hw=>err_any (ab w0.world fz D) gr sl s.e [] (List.mem_cons_of_mem _ (List.mem_cons_self ..)) w hw))<|sS (.bool b1) (Quiet.pure (exec_int .neq _ _ _ .i64 _ _ _ rfl rfl rfl (int_neq _ _ _ _ _ (by rw [hb1]; exact decide_eq_decide.2 (by omega))))) ?_
  refine sG ?_
  cases b1
  ·have l1:s.e=0:=Decidable.of_not_not (of_decide_eq_false hb1.symm)
   obtain ⟨z1,z2⟩:=hI.yes l1
   rw [hdn l1] at z2
   refine sU<|Sy.skip<|sB ?_
   refine sS r.v (qc 2 0 rfl rfl Tryz.underlying44)<|sp rfl ?_
   refine sG<|Sy.ret ?_
   refine Sy.retTM1 (b0:=w0) (M:=CRN gc gr sl s.e (R++(N++r.bl))) rfl (.inl (show _=_ by kernel_rfl)) (λw h=>Sy.St.parts (ls:=[[(gc,134,#[.pointer none,ptr gr,.bool false]),(gr,253,#[sl,.int .i64 (s.e:Int)])],[(gl,44,#[r.v])],r.bl,R,[(a,132,#[ptr gr]),(b,3,#[.int .i64 (most:Int)]),(c,273,#[.func (.func 141) #[] #[ptr g7,ptr g4]])],N]) (ms:=[[(gc,134,#[.pointer none,ptr gr,.bool false]),(gr,253,#[sl,.int .i64 (s.e:Int)])],R,N,r.bl]) [[(gl,44,#[r.v])],[(a,132,#[ptr gr]),(b,3,#[.int .i64 (most:Int)]),(c,273,#[.func (.func 141) #[] #[ptr g7,ptr g4]])]] [0,3,5,2,1,4] (by kernel_rfl) (by rfl) (by rw [hR1]; simp) (by simp) h) ⟨l,s,sl,N++r.bl,hA1.bind ⟨λh=>(h z1).elim,λy q _ hy=>?_,λ_ hy=>?_⟩,RowsOk.lst (rep:=rep) hm hI.rows,hse,hrest,hI.byt,rfl⟩ hD hD2 hmk h0.out
   ·rw [z2] at hy
    cases hy
    exact ⟨rfl,by rw [← l1]⟩
   ·rw [z2] at hy; cases hy
  ·have l1:s.e≠0:=of_decide_eq_true hb1.symm
   refine sT<|sC ?_
   refine sP (.slice none 0 0) ?_
   refine sG<|Sy.ret<|Sy.then_ret ?_
   refine Sy.retTM1 (b0:=w0) (M:=CRN gc gr sl s.e (R++[])) rfl (.inl (show _=_ by kernel_rfl)) (λw h=>Sy.St.parts (ls:=[[(gc,134,#[.pointer none,ptr gr,.bool false]),(gr,253,#[sl,.int .i64 (s.e:Int)])],[(gl,44,#[r.v])],r.bl,R,[(a,132,#[ptr gr]),(b,3,#[.int .i64 (most:Int)]),(c,273,#[.func (.func 141) #[] #[ptr g7,ptr g4]])],N]) (ms:=[[(gc,134,#[.pointer none,ptr gr,.bool false]),(gr,253,#[sl,.int .i64 (s.e:Int)])],R]) [[(gl,44,#[r.v])],r.bl,[(a,132,#[ptr gr]),(b,3,#[.int .i64 (most:Int)]),(c,273,#[.func (.func 141) #[] #[ptr g7,ptr g4]])],N] [0,3,1,2,4,5] (by kernel_rfl) (by rfl) (by rw [hR1]; simp) (by simp) h) ⟨[],s,sl,[],hA1.bind ⟨λ_=>l1,λy q h1 hy=>?_,λ_ _=>l1⟩,⟨none,0,0,rfl,rfl,Nat.le_refl _,Nat.zero_le _,λh=>(h rfl).elim⟩,hse,hrest,hI.byt,rfl⟩ hD hD2 hmk h0.out
   rcases hI.no l1 with h | h
   ·exact (h h1).elim
   ·rw [h] at hy; cases hy
theorem list_r_txs (hm:Mono rep) (hp:GetC 28 3 (([Value.int .u64 0]++([Value.slice none 0 0]++([Value.slice none 0 0])))) rep p) (w0:Base) (gc gr gx f most:Nat) (hmost:most<1000000) (tx:TypeId) (A Z:List Value) (sl:Value) (s:RS) (R S:Blocks) (hS:∀ b∈S,b∈R) (hA:A.length=f) (he:s.e≤200) (hl:s.rest.length≤70368744177664) (hv:BytR (rdC w0 S) sl s.rest) (w:World) (hw:St w0 w (CRS gc gr gx tx (A++([Value.slice none 0 0]++Z)) sl s.e R)) :
  Calls Tryz.prog 80 #[ptr gc,.pointer (some ⟨gx,f,none⟩),.int .i64 (most:Int),.func (.func 28) #[] #[]] w (Turns w0 (RdT 1 (repL 3 rep) (listP most p) w0 gc gr gx tx A Z s R S)):=by
 refine Sy.enterT (args:=[ptr gc,.pointer (some ⟨gx,f,none⟩),.int .i64 (most:Int),.func (.func 28) #[] #[]]) hw Tryz.func80 rfl kL ?_
 refine sC ?_
 refine sM 85 #[ptr gc] (λg4=>?_)
 refine sM 83 #[.func (.func 28) #[] #[]] (λg7=>?_)
 obtain ⟨R1,hR1⟩:∃ R1,R1=R++([(g4,85,#[ptr gc])]++[(g7,83,#[.func (.func 28) #[] #[]])]):=⟨_,rfl⟩
 refine Sy.permS (M:=CRS gc gr gx tx (A++([Value.slice none 0 0]++Z)) sl s.e R1) (List.Perm.of_eq (by rw [hR1]; simp)) ?_
 have mR:∀ x∈R,x∈R1:=λx hx=>by rw [hR1]; exact List.mem_append_left _ hx
 have m4:(g4,85,#[ptr gc])∈R1:=by rw [hR1]; simp
 have m7:(g7,83,#[.func (.func 28) #[] #[]])∈R1:=by rw [hR1]; simp
 refine sG<|Sy.seq<|sC ?_
 refine sS (ptr gc) (cellC (R:=R1) (mem1 m4) inCR rfl Tryz.underlying85)<|sS (.bool true) (qg (λw hw=>reads_r w0.inn gc gr _ _ (List.mem_cons_self ..) w hw)) ?_
 refine sG<|sT<|sC ?_
 refine sp rfl<|sS (ptr gc) (cellC (R:=R1) (mem1 m4) inCR rfl Tryz.underlying85)<|sp rfl<|sP (.pointer (some ⟨gc,1,none⟩))<|sS (ptr gr) (qc 0 1 rfl rfl Tryz.underlying132)<|sp rfl<|sP (.func (.func 141) #[] #[ptr g7,ptr g4]) ?_
 refine Sy.callT (λw hw=>list9_r_txs (rep:=rep) (p:=p) hm hp w0.inn gc gr g4 g7 most hmost sl s ((gx,tx,(A++([Value.slice none 0 0]++Z)).toArray)::R1) S (λx h=>List.mem_cons_of_mem _ (mR x (hS x h))) (List.mem_cons_of_mem _ m4) (List.mem_cons_of_mem _ m7) he hl hv w (hw.perm swap23)) (λv M hM=>?_)
 obtain ⟨l,s',sl',N,q1,q2,q3,q4,q5,rfl⟩:=hM
 refine Sy.permS (M:=CRS gc gr gx tx (A++([Value.slice none 0 0]++Z)) sl' s'.e (R1++N)) swap23 ?_
 refine sp rfl<|sw 1 rfl (A++([v]++Z)).toArray (Writes.one f 44 v _ _ rfl kR kR kR q2.cells.1 q2.cells.2 (by rw [List.size_toArray,List.length_append,hA]; exact Nat.lt_add_of_pos_right (Nat.succ_pos _)) (set_mid hA)) ?_
 refine sG<|Sy.ret<|Sy.then_ret ?_
 exact Sy.retT0 rfl (CRS gc gr gx tx (A++([v]++Z)) sl' s'.e (R++N)) (λw h=>Sy.St.parts (ls:=[[(gc,134,#[.pointer none,ptr gr,.bool false]),(gx,tx,(A++([v]++Z)).toArray),(gr,253,#[sl',.int .i64 (s'.e:Int)])],R,[(g4,85,#[ptr gc])]++[(g7,83,#[.func (.func 28) #[] #[]])],N]) (ms:=[[(gc,134,#[.pointer none,ptr gr,.bool false]),(gx,tx,(A++([v]++Z)).toArray),(gr,253,#[sl',.int .i64 (s'.e:Int)])],R,N]) [[(g4,85,#[ptr gc])]++[(g7,83,#[.func (.func 28) #[] #[]])]] [0,1,3,2] (by kernel_rfl) (by rfl) (by rw [hR1]; simp) (by simp) h) (λ_=>⟨l,s',sl',[v],N,q1,rfl,λu hu=>by rw [List.mem_singleton.1 hu]; exact q2.cells.2,⟨v,rfl,q2⟩,q3,q4,q5,rfl⟩)
end
theorem block_w:PutO 38 104 repBL okBL encBL wtBL:=λw0 gc gw gx f bad s R b cs x hx _ hc hb hl w hw=>by
 obtain ⟨hd,sg,tx⟩:=x
 obtain ⟨ch,vs,vt,rfl,h1,h2,h3⟩:=hx
 dsimp only at h1 h2 h3
 unfold wtBL at hl
 dsimp only at hl
 have e1:=lenHE h1
 have c0:OwnAt R gx f (ch++([vs]++[vt])):=hc
 have c1:OwnAt R gx (f+102) ([vs]++[vt]):=c0.right e1
 have c2:OwnAt R gx (f+103) [vt]:=c1.right (n:=1) rfl
 refine Sy.enterT (args:=[ptr gc,.pointer (some ⟨gx,f,none⟩)]) hw Tryz.func38 rfl kL ?_
 refine sC ?_
 refine sp rfl<|sp rfl<|sp rfl<|sP (.pointer (some ⟨gx,f,none⟩)) ?_
 refine Sy.callT (λw hw=>header_w w0.inn gc gw gx f bad s R b ch hd h1 e1 c0.left hb (by omega) w hw) (λu M hM=>?_)
 obtain ⟨s1,bad1,b1,q1,p1,rfl⟩:=hM
 have l1:b1.length≤b.length+wtHE hd:=q1.len
 refine sA ?_
 refine sp rfl<|sp rfl<|sp rfl<|sP (.pointer (some ⟨gx,f+102,none⟩)) ?_
 refine Sy.callT (λw hw=>list_w_sgs (rep:=repSG) monoSG signed_w w0.inn gc gw gx (f+102) 16 (by decide) bad1 s1 R b1 vs sg h2 (c1.at w0.inn).one p1 (by omega) w hw) (λu M hM=>?_)
 obtain ⟨s2,bad2,b2,q2,p2,rfl⟩:=hM
 have l2:b2.length≤b1.length+(9+(sg.map λ_=>65).sum):=q2.len
 refine Sy.nil<|Sy.then_<|Sy.region ?_
 refine sp rfl<|sp rfl<|sp rfl<|sP (.pointer (some ⟨gx,f+103,none⟩)) ?_
 refine Sy.callT (λw hw=>list_w_txs (rep:=repTR) monoTR tx_w w0.inn gc gw gx (f+103) 64 (by decide) bad2 s2 R b2 vt tx h3 (c2.at w0.inn).one p2 (by omega) w hw) (λu M hM=>?_)
 obtain ⟨s3,bad3,b3,q3,p3,rfl⟩:=hM
 have l3:b3.length≤b2.length+(9+(tx.map wtTR).sum):=q3.len
 refine Sy.nil ?_
 have q:=q1.then_ (q2.then_ q3)
 skip
 exact Sy.retT0 rfl (CWS gc gw bad3 s3 R) (λ_ h=>h) (λ_=>⟨s3,bad3,b3,q,p3,rfl⟩)
theorem block_r:GetC 38 104 ((Z32++([Value.int .u64 0]++([Value.int .u64 0]++(Z32++(Z32++([Value.slice none 0 0]++([Value.bool false]++([Value.int .i64 0]++[Value.slice none 0 0]))))))))++([Value.slice none 0 0]++([Value.slice none 0 0]))) repBL rdBL:=λw0 gc gr gx f tx A Z sl s R S hS hA he hl hv w hw=>by
 refine Sy.enterT (args:=[ptr gc,.pointer (some ⟨gx,f,none⟩)]) hw Tryz.func38 rfl kL ?_
 refine sC ?_
 refine sp rfl<|sp rfl<|sp rfl<|sP (.pointer (some ⟨gx,f,none⟩)) ?_
 refine Sy.callT (λw hw=>header_r w0.inn gc gr gx f tx (A) ([Value.slice none 0 0]++([Value.slice none 0 0]++Z)) sl s (R) S hS hA he (hl) hv w (by simpa only [List.append_assoc] using hw)) (λu M hM=>?_)
 obtain ⟨x1,s1,sl1,cs1,N1,a1,n1,o1,r1,e1,h1,y1,rfl⟩:=hM
 have g1:s1.rest.length≤s.rest.length:=h1
 have A1:(A++(cs1)).length=f+102:=by rw [List.length_append,hA,n1]
 refine sA ?_
 refine sp rfl<|sp rfl<|sp rfl<|sP (.pointer (some ⟨gx,f+102,none⟩)) ?_
 refine Sy.callT (λw hw=>list_r_sgs (rep:=repSG) (p:=rdSG) monoSG signed_r w0.inn gc gr gx (f+102) 16 (by decide) tx (A++(cs1)) ([Value.slice none 0 0]++Z) sl1 s1 (R++N1) S (λb h=>List.mem_append_left _ (hS b h)) A1 e1 (Nat.le_trans g1 hl) y1 w (by have e:A++(cs1)++([Value.slice none 0 0]++([Value.slice none 0 0]++Z))=A++(cs1++([Value.slice none 0 0]++([Value.slice none 0 0]++Z))):=List.append_assoc ..; rw [e]; exact hw)) (λu M hM=>?_)
 obtain ⟨x2,s2,sl2,cs2,N2,a2,n2,o2,⟨v2,rfl,r2⟩,e2,h2,y2,rfl⟩:=hM
 have g2:s2.rest.length≤s.rest.length:=Nat.le_trans h2 g1
 have A2:(A++(cs1)++[v2]).length=f+103:=by rw [List.length_append,A1,n2]
 refine Sy.nil<|Sy.then_<|Sy.region ?_
 refine sp rfl<|sp rfl<|sp rfl<|sP (.pointer (some ⟨gx,f+103,none⟩)) ?_
 refine Sy.callT (λw hw=>list_r_txs (rep:=repTR) (p:=rdTR) monoTR tx_r w0.inn gc gr gx (f+103) 64 (by decide) tx (A++(cs1)++[v2]) (Z) sl2 s2 (R++N1++N2) S (λb h=>List.mem_append_left _ (List.mem_append_left _ (hS b h))) A2 e2 (Nat.le_trans g2 hl) y2 w (by have e:A++(cs1)++[v2]++([Value.slice none 0 0]++(Z))=A++(cs1)++([v2]++([Value.slice none 0 0]++(Z))):=List.append_assoc ..; rw [e]; exact hw)) (λu M hM=>?_)
 obtain ⟨x3,s3,sl3,cs3,N3,a3,n3,o3,⟨v3,rfl,r3⟩,e3,h3,y3,rfl⟩:=hM
 have g3:s3.rest.length≤s.rest.length:=Nat.le_trans h3 g2
 have A3:(A++(cs1)++[v2]++[v3]).length=f+104:=by rw [List.length_append,A2,n3]
 refine Sy.nil ?_
 have hAf:After rdBL s ⟨x1,x2,x3⟩ s3:=a1.bind (a2.bind (a3.bind (After.ret _ _)))
 have hLn:(cs1++([v2]++([v3]))).length=104:=by simp only [List.length_append,n1]; rfl
 have hOn:∀ u∈(cs1++([v2]++([v3]))),u.oneCell'=true:=ones_app o1 (ones_app o2 (o3))
 have hRp:repBL (rdB (N1++(N2++(N3)))) (cs1++([v2]++([v3]))) ⟨x1,x2,x3⟩:=⟨cs1,v2,v3,rfl,monoHE (rdB_le λb h=>by simp [h]) r1,LstR.le (rep:=repSG) monoSG (rdB_le λb h=>by simp [h]) r2,LstR.le (rep:=repTR) monoTR (rdB_le λb h=>by simp [h]) r3⟩
 exact Sy.retT0 rfl (CRS gc gr gx tx (A++((cs1++([v2]++([v3])))++Z)) sl3 s3.e (R++(N1++(N2++(N3))))) (λ_ h=>by simpa only [List.append_assoc,List.cons_append,List.nil_append] using h) (λ_=>⟨_,s3,sl3,_,_,hAf,hLn,hOn,hRp,e3,g3,y3,rfl⟩)
theorem write_blk {α:Type} {rep:Rdr→List Value→α→Prop} {ok:α→Bool} {enc:α→Byt} {wt:α→Nat} (hm:Mono rep) (hp:PutO 38 104 rep ok enc wt) (w:World) (cs:List Value) (x:α) (hx:rep (rdW w) cs x) (hl:cs.length=104) (hwt:wt x≤70368744170000) :
  Calls Tryz.prog 37 #[.agg cs.toArray,.func (.func 38) #[] #[]] w (GetsN w (BytE (ok x) (enc x))):=by
 refine Sy.enter (args:=[.agg cs.toArray,.func (.func 38) #[] #[]]) Tryz.func37 rfl kL ?_
 refine sC ?_
 refine sM 46 cs.toArray (λgx=>?_) kR (λw=>run_boxR rfl rfl (by kernel_rfl) hl w)
 refine sP (.slice none 0 0)<|sP (.int .i64 0) ?_
 refine sA ?_
 refine Sy.callN kR 57 #[] kF _ (λw _=>new_any w) (λv M hM=>?_)
 obtain ⟨gw,rfl,rfl⟩:=hM
 refine sP (.agg #[ptr gw,.pointer none,.bool false])<|sM 134 #[ptr gw,.pointer none,.bool false] (λgc=>?_)
 refine sp rfl ?_
 refine sA ?_
 refine Sy.permS (M:=CWS gc gw false nilS [(gx,46,cs.toArray)]) (Sy.perm_at [2,1,0] (by kernel_rfl) (by rfl)) ?_
 refine sp rfl<|sp rfl ?_
 refine Sy.callT (λw' hw=>hp (Base.of w) gc gw gx 0 false nilS [(gx,46,cs.toArray)] [] cs x (hm rdW_base hx) hl (ownX (List.mem_singleton.2 rfl)) BS.nil (by show 0+_≤_; omega) w' hw) (λv M hM=>?_)
 obtain ⟨s,bad,b,q1,q2,rfl⟩:=hM
 have hbl:b.length≤wt x:=by have:=q1.len; simpa using this
 refine sG<|Sy.seq<|sC ?_
 refine sp rfl<|sp rfl<|sP (.pointer (some ⟨gc,2,none⟩))<|sS (.bool bad) (qc 0 2 rfl rfl Tryz.underlying4) ?_
 refine sG ?_
 cases bad
 ·have hok:ok x=true:=by
   have e:=q1.bad
   cases h:ok x with
   | true=>rfl
   | false=>rw [h] at e; cases e
  obtain rfl:b=enc x:=by have:=q1.bytes rfl; simpa using this
  refine sU<|Sy.skip<|sB ?_
  refine sp rfl<|sp rfl<|sP (.pointer (some ⟨gc,0,none⟩))<|sS (ptr gw) (qc 0 0 rfl rfl Tryz.underlying130) ?_
  refine Sy.callT (λw' hw=>bytes_any (Base.of w) gw s ((gc,134,#[ptr gw,.pointer none,.bool false])::[(gx,46,cs.toArray)]) (enc x) q2 (by omega) w' (hw.perm permCW)) (λv M hM=>?_)
  obtain ⟨N,hN,rfl⟩:=hM
  refine sp rfl<|sP (.int .i64 0) ?_
  refine sG<|Sy.ret ?_
  exact Sy.retGM2 N rfl (.inl (show _=_ by kernel_rfl)) (.inl (show _=_ by kernel_rfl)) (λ_ h=>h.less (List.sublist_append_right _ _)) (.inl ⟨hok,v,rfl,hN⟩)
 ·have hok:ok x=false:=by
   have e:=q1.bad
   cases h:ok x with
   | false=>rfl
   | true=>rw [h] at e; cases e
  refine sT<|sC ?_
  refine sP (.slice none 0 0)<|sP (.int .i64 120) ?_
  refine sG<|Sy.ret<|Sy.then_ret ?_
  exact Sy.retGM2 [] rfl (.inl (show _=_ by kernel_rfl)) (.inl (show _=_ by kernel_rfl)) (λ_ h=>h.none) (.inr ⟨hok,rfl,rfl⟩)
theorem ex_blk {α:Type} {rep:Rdr→List Value→α→Prop} {ok:α→Bool} {enc:α→Byt} {wt:α→Nat} (hm:Mono rep) (hp:PutO 38 104 rep ok enc wt) (w:World) (cs:List Value) (x:α) (hx:rep (rdW w) cs x) (hl:cs.length=104) (hwt:wt x≤70368744170000) :
  Calls Tryz.prog 13 #[.agg cs.toArray] w (GetsN w (BytE (ok x) (enc x))):=by
 refine Sy.enter (args:=[.agg cs.toArray]) Tryz.func13 rfl kL ?_
 refine sC ?_
 refine sM 46 cs.toArray (λgx=>?_) kR (λw=>run_boxR rfl rfl (by kernel_rfl) hl w)
 refine sP (.slice none 0 0)<|sP (.int .i64 0) ?_
 refine sA ?_
 refine sS (.agg cs.toArray) (rowC (R:=[(gx,46,cs.toArray)]) (memX (List.mem_singleton.2 rfl)) (λ_ h=>h) hl rfl Tryz.underlying46) ?_
 refine Sy.callN kR 37 #[.agg cs.toArray,.func (.func 38) #[] #[]] kF (BytE (ok x) (enc x)) (λw' hw=>write_blk (rep:=rep) hm hp w' cs x (hm (λg o u h=>rdC_world (R:=[]) hw (λ_ h=>by cases h) g o u (.inl h)) hx) hl hwt) (λv M hM=>?_)
 have hv:∃ a e:Value,v=.tuple #[a,e]:=by
  rcases hM with ⟨_,u,rfl,_⟩ | ⟨_,rfl,_⟩ <;> exact ⟨_,_,rfl⟩
 obtain ⟨a,e,rfl⟩:=hv
 refine sp rfl<|sp rfl<|sp rfl<|sp rfl ?_
 refine sG<|Sy.ret ?_
 exact Sy.retGM2 M rfl (.inl (show _=_ by kernel_rfl)) (.inl (show _=_ by kernel_rfl)) (λ_ h=>h.less (List.sublist_append_right _ _)) hM
theorem read_blk {α:Type} {rep:Rdr→List Value→α→Prop} {p:Ps α} (hm:Mono rep) (hp:GetC 38 104 ((Z32++([Value.int .u64 0]++([Value.int .u64 0]++(Z32++(Z32++([Value.slice none 0 0]++([Value.bool false]++([Value.int .i64 0]++[Value.slice none 0 0]))))))))++([Value.slice none 0 0]++([Value.slice none 0 0]))) rep p) (w:World) (v:Value) (b:Byt) (hv:BytR (rdW w) v b) (hl:b.length≤70368744177664) :
  Calls Tryz.prog 40 #[v,.func (.func 38) #[] #[]] w (GetsN w (RdE 104 ((Z32++([Value.int .u64 0]++([Value.int .u64 0]++(Z32++(Z32++([Value.slice none 0 0]++([Value.bool false]++([Value.int .i64 0]++[Value.slice none 0 0]))))))))++([Value.slice none 0 0]++([Value.slice none 0 0]))) rep (allP p b))):=by
 refine Sy.enter (args:=[v,.func (.func 38) #[] #[]]) Tryz.func40 rfl kL ?_
 refine sC ?_
 refine sM 46 ((Z32++([Value.int .u64 0]++([Value.int .u64 0]++(Z32++(Z32++([Value.slice none 0 0]++([Value.bool false]++([Value.int .i64 0]++[Value.slice none 0 0]))))))))++([Value.slice none 0 0]++([Value.slice none 0 0]))).toArray (λg4=>?_)
 refine sP (.int .i64 0) ?_
 refine sA ?_
 refine sM 46 ((Z32++([Value.int .u64 0]++([Value.int .u64 0]++(Z32++(Z32++([Value.slice none 0 0]++([Value.bool false]++([Value.int .i64 0]++[Value.slice none 0 0]))))))))++([Value.slice none 0 0]++([Value.slice none 0 0]))).toArray (λg6=>?_)
 refine sM 46 ((Z32++([Value.int .u64 0]++([Value.int .u64 0]++(Z32++(Z32++([Value.slice none 0 0]++([Value.bool false]++([Value.int .i64 0]++[Value.slice none 0 0]))))))))++([Value.slice none 0 0]++([Value.slice none 0 0]))).toArray (λg7=>?_)
 refine sA ?_
 refine sp rfl ?_
 refine Sy.callN kR 67 #[v] kF _ (λw' hw=>read_any w' v b (hv.at hw) hl) (λu M hM=>?_)
 obtain ⟨gr,sl,N0,hN0,rfl,rfl⟩:=hM
 refine sP (.agg #[.pointer none,ptr gr,.bool false])<|sM 134 #[.pointer none,ptr gr,.bool false] (λgc=>?_)
 refine Sy.permS (M:=CRS gc gr g6 46 ([]++(((Z32++([Value.int .u64 0]++([Value.int .u64 0]++(Z32++(Z32++([Value.slice none 0 0]++([Value.bool false]++([Value.int .i64 0]++[Value.slice none 0 0]))))))))++([Value.slice none 0 0]++([Value.slice none 0 0])))++[])) sl 0 ((g4,46,((Z32++([Value.int .u64 0]++([Value.int .u64 0]++(Z32++(Z32++([Value.slice none 0 0]++([Value.bool false]++([Value.int .i64 0]++[Value.slice none 0 0]))))))))++([Value.slice none 0 0]++([Value.slice none 0 0]))).toArray)::(g7,46,((Z32++([Value.int .u64 0]++([Value.int .u64 0]++(Z32++(Z32++([Value.slice none 0 0]++([Value.bool false]++([Value.int .i64 0]++[Value.slice none 0 0]))))))))++([Value.slice none 0 0]++([Value.slice none 0 0]))).toArray)::N0)) (Sy.flat_perm (ls:=[[(g4,46,((Z32++([Value.int .u64 0]++([Value.int .u64 0]++(Z32++(Z32++([Value.slice none 0 0]++([Value.bool false]++([Value.int .i64 0]++[Value.slice none 0 0]))))))))++([Value.slice none 0 0]++([Value.slice none 0 0]))).toArray)],[(g6,46,((Z32++([Value.int .u64 0]++([Value.int .u64 0]++(Z32++(Z32++([Value.slice none 0 0]++([Value.bool false]++([Value.int .i64 0]++[Value.slice none 0 0]))))))))++([Value.slice none 0 0]++([Value.slice none 0 0]))).toArray)],[(g7,46,((Z32++([Value.int .u64 0]++([Value.int .u64 0]++(Z32++(Z32++([Value.slice none 0 0]++([Value.bool false]++([Value.int .i64 0]++[Value.slice none 0 0]))))))))++([Value.slice none 0 0]++([Value.slice none 0 0]))).toArray)],[(gr,253,#[sl,.int .i64 0])],N0,[(gc,134,#[.pointer none,ptr gr,.bool false])]]) (ms:=[[(gc,134,#[.pointer none,ptr gr,.bool false])],[(g6,46,((Z32++([Value.int .u64 0]++([Value.int .u64 0]++(Z32++(Z32++([Value.slice none 0 0]++([Value.bool false]++([Value.int .i64 0]++[Value.slice none 0 0]))))))))++([Value.slice none 0 0]++([Value.slice none 0 0]))).toArray)],[(gr,253,#[sl,.int .i64 0])],[(g4,46,((Z32++([Value.int .u64 0]++([Value.int .u64 0]++(Z32++(Z32++([Value.slice none 0 0]++([Value.bool false]++([Value.int .i64 0]++[Value.slice none 0 0]))))))))++([Value.slice none 0 0]++([Value.slice none 0 0]))).toArray)],[(g7,46,((Z32++([Value.int .u64 0]++([Value.int .u64 0]++(Z32++(Z32++([Value.slice none 0 0]++([Value.bool false]++([Value.int .i64 0]++[Value.slice none 0 0]))))))))++([Value.slice none 0 0]++([Value.slice none 0 0]))).toArray)],N0]) [5,1,3,0,2,4] (by kernel_rfl) (by rfl) (by simp) (by simp)) ?_
 refine sp rfl ?_
 refine sA ?_
 refine sp rfl<|sp rfl ?_
 refine Sy.callT (λw' hw=>hp (Base.of w) gc gr g6 0 46 [] [] sl ⟨b,0⟩ ((g4,46,((Z32++([Value.int .u64 0]++([Value.int .u64 0]++(Z32++(Z32++([Value.slice none 0 0]++([Value.bool false]++([Value.int .i64 0]++[Value.slice none 0 0]))))))))++([Value.slice none 0 0]++([Value.slice none 0 0]))).toArray)::(g7,46,((Z32++([Value.int .u64 0]++([Value.int .u64 0]++(Z32++(Z32++([Value.slice none 0 0]++([Value.bool false]++([Value.int .i64 0]++[Value.slice none 0 0]))))))))++([Value.slice none 0 0]++([Value.slice none 0 0]))).toArray)::N0) N0 (λx h=>List.mem_cons_of_mem _ (List.mem_cons_of_mem _ h)) rfl (Nat.zero_le _) hl (hN0.byt.le rdB_base) w' hw) (λu M hM=>?_)
 obtain ⟨x,s',sl',cs,N,q1,q2,q3,q4,q5,q6,q7,rfl⟩:=hM
 rw [List.append_nil]
 obtain ⟨o1,o2⟩:=all_of q1
 obtain ⟨e,hE⟩:∃ e,e=if s'.e=0∧0<s'.rest.length then 113 else s'.e:=⟨_,rfl⟩
 have hEl:e≤200:=by rw [hE]; split <;> omega
 refine sG<|Sy.seq<|sC ?_
 obtain ⟨b1,hb1⟩:∃ z:Bool,z=decide (e≠0):=⟨_,rfl⟩
 refine sp rfl<|sp rfl<|sP (.pointer (some ⟨gc,1,none⟩))<|sS (ptr gr) (qc 0 1 rfl rfl Tryz.underlying132)<|sS (.int .i64 (e:Int)) (qg (λw' hw=>by rw [hE]; exact end_any (Base.of w) gr sl' s' N0 q5 q7 (List.mem_cons_of_mem _ (List.mem_cons_of_mem _ (List.mem_cons_self ..))) w' hw))<|sS (.bool b1) (Quiet.pure (exec_int .neq _ _ _ .i64 _ _ _ rfl rfl rfl (int_neq _ _ _ _ _ (by rw [hb1]; exact decide_eq_decide.2 (by omega))))) ?_
 refine sG ?_
 cases b1
 ·have l1:e=0:=Decidable.of_not_not (of_decide_eq_false hb1.symm)
  have l2:s'.e=0∧s'.rest=[]:=by
   by_cases h:s'.e=0∧0<s'.rest.length
   ·rw [if_pos h] at hE; omega
   ·rw [if_neg h] at hE
    exact ⟨by omega,List.eq_nil_of_length_eq_zero (by omega)⟩
  refine sU<|Sy.skip<|sB ?_
  refine sS (.agg cs.toArray) (Quiet.mid 1 g6 0 104 46 46 cs cs _ _ rfl kR rfl Tryz.underlying46 rfl kR (by rw [List.drop_zero,List.take_of_length_le (by omega)]) (by omega))<|sw 3 rfl cs.toArray (Writes.row 46 cs 104 _ _ rfl kR kR kR q2 (by kernel_rfl) q3)<|sP (.int .i64 0) ?_
  refine sG<|Sy.ret ?_
  exact Sy.retGM2 N rfl (.inl (Sy.Res.cell (ty':=46) g4 3 cs.toArray _ (by kernel_rfl) rfl Tryz.underlying46 rfl (by rw [List.size_toArray,q2]; kernel_rfl) rfl)) (.inl (show _=_ by kernel_rfl)) (λ_ h=>h.less (List.sublist_append_right [(gc,134,#[.pointer none,ptr gr,.bool false]),(g6,46,cs.toArray),(gr,253,#[sl',.int .i64 (s'.e:Int)]),(g4,46,cs.toArray),(g7,46,((Z32++([Value.int .u64 0]++([Value.int .u64 0]++(Z32++(Z32++([Value.slice none 0 0]++([Value.bool false]++([Value.int .i64 0]++[Value.slice none 0 0]))))))))++([Value.slice none 0 0]++([Value.slice none 0 0]))).toArray)] (N0++N) |> λh1=>(List.sublist_append_right N0 N).trans h1)) (.inl ⟨x,cs,o1 l2.1 l2.2,rfl,q2,q4⟩)
 ·have l1:e≠0:=of_decide_eq_true hb1.symm
  have l2:s'.e≠0∨s'.rest≠[]:=by
   by_cases h:s'.e=0∧0<s'.rest.length
   ·exact .inr (λe=>by rw [e] at h; exact absurd h.2 (by decide))
   ·rw [if_neg h] at hE; exact .inl (by omega)
  refine sT<|sC ?_
  refine sS (.agg ((Z32++([Value.int .u64 0]++([Value.int .u64 0]++(Z32++(Z32++([Value.slice none 0 0]++([Value.bool false]++([Value.int .i64 0]++[Value.slice none 0 0]))))))))++([Value.slice none 0 0]++([Value.slice none 0 0]))).toArray) (qk 4 0 104 rfl rfl Tryz.underlying46)<|sw 3 rfl ((Z32++([Value.int .u64 0]++([Value.int .u64 0]++(Z32++(Z32++([Value.slice none 0 0]++([Value.bool false]++([Value.int .i64 0]++[Value.slice none 0 0]))))))))++([Value.slice none 0 0]++([Value.slice none 0 0]))).toArray (wA rfl)<|sP (.int .i64 120) ?_
  refine sG<|Sy.ret<|Sy.then_ret ?_
  exact Sy.retGM2 [] rfl (.inl (Sy.Res.cell (ty':=46) g4 3 ((Z32++([Value.int .u64 0]++([Value.int .u64 0]++(Z32++(Z32++([Value.slice none 0 0]++([Value.bool false]++([Value.int .i64 0]++[Value.slice none 0 0]))))))))++([Value.slice none 0 0]++([Value.slice none 0 0]))).toArray _ (by kernel_rfl) rfl Tryz.underlying46 rfl (by kernel_rfl) rfl)) (.inl (show _=_ by kernel_rfl)) (λ_ h=>h.none) (.inr ⟨o2 l2,rfl,rfl⟩)
theorem rdx_blk {α:Type} {rep:Rdr→List Value→α→Prop} {p:Ps α} (hm:Mono rep) (hone:∀ {C:Rdr} {cs:List Value} {x:α},rep C cs x→∀ u∈cs,u.oneCell'=true) (hp:GetC 38 104 ((Z32++([Value.int .u64 0]++([Value.int .u64 0]++(Z32++(Z32++([Value.slice none 0 0]++([Value.bool false]++([Value.int .i64 0]++[Value.slice none 0 0]))))))))++([Value.slice none 0 0]++([Value.slice none 0 0]))) rep p) (w:World) (v:Value) (b:Byt) (hv:BytR (rdW w) v b) (hl:b.length≤70368744177664) :
  Calls Tryz.prog 15 #[v] w (GetsN w (RdE 104 ((Z32++([Value.int .u64 0]++([Value.int .u64 0]++(Z32++(Z32++([Value.slice none 0 0]++([Value.bool false]++([Value.int .i64 0]++[Value.slice none 0 0]))))))))++([Value.slice none 0 0]++([Value.slice none 0 0]))) rep (allP p b))):=by
 refine Sy.enter (args:=[v]) Tryz.func15 rfl kL ?_
 refine sC ?_
 refine sM 46 ((Z32++([Value.int .u64 0]++([Value.int .u64 0]++(Z32++(Z32++([Value.slice none 0 0]++([Value.bool false]++([Value.int .i64 0]++[Value.slice none 0 0]))))))))++([Value.slice none 0 0]++([Value.slice none 0 0]))).toArray (λg2=>?_)
 refine sP (.int .i64 0) ?_
 refine sA ?_
 refine sp rfl ?_
 refine Sy.callN kR 40 #[v,.func (.func 38) #[] #[]] kF _ (λw' hw=>read_blk (rep:=rep) (p:=p) hm hp w' v b (hv.at hw) hl) (λu M hM=>?_)
 rcases hM with ⟨x,cs,o1,rfl,q2,q4⟩ | ⟨o1,rfl,rfl⟩
 ·have q3:∀ u∈cs,u.oneCell'=true:=hone q4
  refine sp rfl<|sp rfl<|sw 0 rfl cs.toArray (Writes.row 46 cs 104 _ _ rfl kR kR kR q2 (by kernel_rfl) q3)<|sp rfl ?_
  refine sG<|Sy.ret ?_
  exact Sy.retGM2 M rfl (.inl (Sy.Res.cell (ty':=46) g2 0 cs.toArray _ (by kernel_rfl) rfl Tryz.underlying46 rfl (by rw [List.size_toArray,q2]; kernel_rfl) rfl)) (.inl (show _=_ by kernel_rfl)) (λ_ h=>h.less (List.sublist_cons_self _ _)) (.inl ⟨x,cs,o1,rfl,q2,q4⟩)
 ·refine sp rfl<|sp rfl<|sw 0 rfl ((Z32++([Value.int .u64 0]++([Value.int .u64 0]++(Z32++(Z32++([Value.slice none 0 0]++([Value.bool false]++([Value.int .i64 0]++[Value.slice none 0 0]))))))))++([Value.slice none 0 0]++([Value.slice none 0 0]))).toArray (wA rfl)<|sp rfl ?_
  refine sG<|Sy.ret ?_
  exact Sy.retGM2 [] rfl (.inl (Sy.Res.cell (ty':=46) g2 0 ((Z32++([Value.int .u64 0]++([Value.int .u64 0]++(Z32++(Z32++([Value.slice none 0 0]++([Value.bool false]++([Value.int .i64 0]++[Value.slice none 0 0]))))))))++([Value.slice none 0 0]++([Value.slice none 0 0]))).toArray _ (by kernel_rfl) rfl Tryz.underlying46 rfl (by kernel_rfl) rfl)) (.inl (show _=_ by kernel_rfl)) (λ_ h=>h.none) (.inr ⟨o1,rfl,rfl⟩)
end Wr
end
section
namespace Wr
open Go.RowKit Sy
set_option maxRecDepth 100000
set_option maxHeartbeats 4000000
theorem sum_cap {α:Type} {ok:α→Bool} {wt:α→Nat} {c:Nat} (h:∀ x,ok x=true→wt x≤c):∀ {l:List α} {n:Nat},(decide (l.length≤n) && l.all ok)=true→(l.map wt).sum≤n*c:=λ{l} {n} hk=>by
 rw [Bool.and_eq_true] at hk
 have hn:=of_decide_eq_true hk.1
 have hs:(l.map wt).sum≤l.length*c:=by
  have ha:=hk.2
  clear hk hn
  induction l with
  | nil=>exact Nat.zero_le _
  | cons x l ih =>
   rw [List.all_cons,Bool.and_eq_true] at ha
   have a:=h x ha.1
   have b:=ih ha.2
   rw [List.map_cons,List.sum_cons,List.length_cons,Nat.succ_mul]
   omega
 exact Nat.le_trans hs (Nat.mul_le_mul_right c hn)
theorem capOU {o:MOu} (h:okOU o=true):wtOU o≤20000:=by
 unfold okOU at h
 simp only [Bool.and_eq_true,decide_eq_true_eq] at h
 obtain ⟨_,_,_,h1,h2,h3,h4⟩:=h
 unfold wtOU
 omega
theorem capIS {i:MIs} (h:okIS i=true):wtIS i≤7000:=by
 unfold okIS at h
 unfold wtIS
 by_cases h0:i.kind=0
 ·rw [if_pos h0] at h
  unfold nulIS at h
  simp only [Bool.and_eq_true,decide_eq_true_eq] at h
  omega
 ·rw [if_neg h0] at h
  by_cases hk:i.kind=1∨i.kind=2
  ·rw [if_pos hk] at h
   unfold fulIS at h
   simp only [Bool.and_eq_true,decide_eq_true_eq] at h
   omega
  ·rw [if_neg hk] at h; cases h
theorem sum_32' (l:List Byt):(l.map λ_=>32).sum=32*l.length:=by
 induction l with
 | nil=>rfl
 | cons o l ih=>rw [List.map_cons,List.sum_cons,ih,List.length_cons]; omega
theorem capPG {p:MPg} (h:okPG p=true∨nulPG p=true):wtPG p≤3000:=by
 unfold wtPG
 rw [sum_32']
 rcases h with h | h
 ·unfold okPG at h
  simp only [Bool.and_eq_true,decide_eq_true_eq] at h
  omega
 ·unfold nulPG at h
  simp only [Bool.and_eq_true,decide_eq_true_eq] at h
  omega
theorem capIN {i:MIn} (h:okIN i=true):wtIN i≤20000:=by
 unfold okIN at h
 rw [Bool.and_eq_true,Bool.and_eq_true,Bool.and_eq_true] at h
 obtain ⟨_,h1,h2,h3⟩:=h
 have a:=capIS h1
 have b:wtPG i.peg≤3000:=by
  by_cases hk:i.kind=2
  ·rw [if_pos hk] at h2; exact capPG (.inl h2)
  ·rw [if_neg hk] at h2; exact capPG (.inr h2)
 have c:(i.wit.map wtT).sum≤16*265:=sum_cap (ok:=ok256) (λx hx=>by unfold ok256 at hx; have:=of_decide_eq_true hx; unfold wtT; omega) h3
 unfold wtIN
 omega
theorem capTR {t:MTr} (h:okTR t=true):wtTR t≤1000000:=by
 unfold okTR at h
 rw [Bool.and_eq_true] at h
 have a:=sum_cap (wt:=wtIN) (λx hx=>capIN hx) h.1
 have b:=sum_cap (wt:=wtOU) (λx hx=>capOU hx) h.2
 unfold wtTR
 omega
theorem capPA {p:MPa} (h:okPA p=true):wtPA p≤1000:=by
 unfold okPA at h
 simp only [Bool.and_eq_true,decide_eq_true_eq] at h
 unfold wtPA
 rw [sum_32']
 omega
theorem capHE {h:MHe} (hk:okHE h=true):wtHE h≤3000:=by
 unfold okHE at hk
 rw [Bool.and_eq_true,decide_eq_true_eq] at hk
 obtain ⟨h1,h2⟩:=hk
 have a:wtPA h.next≤1000:=by
  by_cases hc:h.change=true
  ·rw [if_pos hc] at h2; exact capPA h2
  ·rw [if_neg hc] at h2
   rw [Bool.and_eq_true,decide_eq_true_eq,decide_eq_true_eq] at h2
   unfold wtPA
   rw [sum_32',h2.2]
   omega
 unfold wtHE
 omega
theorem capBL {b:MBl} (h:okBL b=true):wtBL b≤100000000:=by
 unfold okBL at h
 rw [Bool.and_eq_true,Bool.and_eq_true] at h
 have a:=capHE h.1
 have c:=sum_cap (wt:=λ_:MSg=>65) (c:=65) (λx _=>Nat.le_refl _) h.2.1
 have d:=sum_cap (wt:=wtTR) (λx hx=>capTR hx) h.2.2
 unfold wtBL
 omega
theorem capCF {c:MCf} (h:okCF c=true):wtCF c≤100000000:=by
 unfold okCF at h
 rw [Bool.and_eq_true] at h
 have a:=capPA h.1
 have b:=sum_cap (wt:=wtOU) (λx hx=>capOU hx) h.2
 unfold wtCF
 omega
def zoOU:MOu:=⟨0,⟨false,z32,⟨0,0,false⟩⟩,zAM,[],[],[],[]⟩
def zoHE:MHe:=⟨z32,0,0,z32,z32,[],false,⟨0,[]⟩⟩
def zoTR:MTr:=⟨0,[],[]⟩
def zoBL:MBl:=⟨zoHE,[],[]⟩
def zoPA:MPa:=⟨0,[]⟩
def zoMH:MHd:=⟨z32,z32,0,0⟩
def zoCF:MCf:=⟨z32,0,zoPA,zoMH,[]⟩
theorem lst_nil {α:Type} (C:Rdr) (k:Nat) (rep:Rdr→List Value→α→Prop):LstR C k rep (.slice none 0 0) []:=⟨none,0,0,rfl,rfl,Nat.le_refl _,Nat.zero_le _,λh=>(h rfl).elim⟩
theorem zo64:(0:Nat)<18446744073709551616:=by decide
theorem zoK4:(0:Nat)<Cu.K4:=by decide
theorem zoOU_rep (C:Rdr):repOU C ([Value.int .i64 0]++(([Value.bool false]++(Z32++lPT ⟨0,0,false⟩))++(([Value.bool false]++([Value.int .u64 0]++lPT ⟨0,0,false⟩))++([Value.slice none 0 0]++([Value.slice none 0 0]++([Value.slice none 0 0]++([Value.slice none 0 0]))))))) zoOU:=⟨_,_,_,_,rfl,⟨rfl,zoK4,zoK4⟩,⟨zo64,zoK4,zoK4⟩,BytR.nil _,BytR.nil _,BytR.nil _,BytR.nil _⟩
theorem zoHE_rep (C:Rdr):repHE C (Z32++([Value.int .u64 0]++([Value.int .u64 0]++(Z32++(Z32++([Value.slice none 0 0]++([Value.bool false]++([Value.int .i64 0]++[Value.slice none 0 0])))))))) zoHE:=⟨_,_,rfl,rfl,rfl,rfl,zo64,zo64,BytR.nil _,lst_nil _ _ _⟩
theorem zoTR_rep (C:Rdr):repTR C ([Value.int .u64 0]++([Value.slice none 0 0]++([Value.slice none 0 0]))) zoTR:=⟨_,_,rfl,zo64,lst_nil _ _ _,lst_nil _ _ _⟩
theorem zoBL_rep (C:Rdr):repBL C ((Z32++([Value.int .u64 0]++([Value.int .u64 0]++(Z32++(Z32++([Value.slice none 0 0]++([Value.bool false]++([Value.int .i64 0]++[Value.slice none 0 0]))))))))++([Value.slice none 0 0]++([Value.slice none 0 0]))) zoBL:=⟨_,_,_,rfl,zoHE_rep C,lst_nil _ _ _,lst_nil _ _ _⟩
theorem zoPA_rep (C:Rdr):repPA C ([Value.int .i64 0]++[Value.slice none 0 0]) zoPA:=⟨_,rfl,lst_nil _ _ _⟩
theorem zoMH_rep (C:Rdr):repMH C (Z32++(Z32++([Value.int .u64 0]++[Value.int .u64 0]))) zoMH:=⟨rfl,rfl,rfl,zo64,zo64⟩
theorem zoCF_rep (C:Rdr):repCF C (Z32++([Value.int .u64 0]++(([Value.int .i64 0]++[Value.slice none 0 0])++((Z32++(Z32++([Value.int .u64 0]++[Value.int .u64 0])))++([Value.slice none 0 0]))))) zoCF:=⟨_,_,_,rfl,rfl,zo64,zoPA_rep C,zoMH_rep C,lst_nil _ _ _⟩
theorem cutS {P:Program} {w0:Base} {n:Nat} {ops:Array Oper} {Q:Exit→Act→World→Prop} {F:Slots} {L:Blocks} {l m:List Oper} (G:Slots) (h2:wpS P w0 n ops Q G L m) (h1:(∀ F',(∀ p∈G,F'.lookup p.1=some p.2)→wpS P w0 n ops Q F' L m)→wpS P w0 n ops Q F L l):wpS P w0 n ops Q F L l:=h1 λ_ hF a w ha hw=>h2 a w (ha.all hF) hw
end Wr
end
end Go.Proofs.YtdbcombmmnihbaaGreat
