/-
  Texts of ours, put together: WirDC, WirDD, WirDE, WirXD, WirP, WirQ, WirR, WirS, WirT, WirU, WirV, WirW, WirAA, WirAB, WirBC, WirBD, WireParamsL, WirCE, WirCF, WirCD, WirCG, WireHeadersL.
-/
import Derived.Test.YtnbenphcpenbeaaGreatWC5
set_option linter.unusedVariables false
set_option linter.unusedSimpArgs false
namespace Go.Proofs.YtnbenphcpenbeaaGreat
section
namespace Wr
open Go.RowKit Sy
set_option maxRecDepth 100000
set_option maxHeartbeats 4000000
theorem eql_dgs (w:World) (F:Slots) (o:Oper) (x y:Operand) (a b:List UInt8) (ha:a.length=32) (hb:b.length=32) {yt:TypeId} (ho:o.op=.binOp .eql 37 x y yt) (hx:evF F x=.agg (a.map bv).toArray) (hy:evF F y=.agg (b.map bv).toArray):(execOp (evF F) o).run Tryz.prog w=.ok (.value (.bool (decide (a=b)))) w:=by
 have h1:(eqGuard .eql 37 x y (.agg (a.map bv).toArray) (.agg (b.map bv).toArray)).run Tryz.prog w=.ok () w:=by go_simp
 have h2:(binOp .eql 37 (.agg (a.map bv).toArray) (.agg (b.map bv).toArray)).run Tryz.prog w=.ok (.bool (decide (a=b))) w:=by
  have h:=run_equalIn_bytes (P:=Tryz.prog) w 9998 37 5 32 Tryz.underlying37 Tryz.underlying5 (λW=>by kernel_rfl) a b ha hb
  rw [run_eql_struct,show (10000:Nat)=9998+2 from rfl,show (Op.equalIn (9998+2) 37 (.agg (a.map bv).toArray) (.agg (b.map bv).toArray)).run Tryz.prog w=_ from h]
  by_cases e:a=b <;> simp [e]
 unfold execOp
 simp only [ho,hx,hy,Sem.run_bind,h1,h2,Result.andThen_ok,Sem.run_pure]
def z32:Byt:=List.replicate 32 0
def nulPT (p:MPt):Bool:=Cu.sameB p.x p.y p.i 0 0 false
structure MTag where
 blind:Bool
 id:Byt
 pt:MPt
def cTG (t:MTag):List Value:=[.bool t.blind]++(t.id.map bv++lPT t.pt)
def repTG (_:Rdr) (cs:List Value) (t:MTag):Prop:=cs=cTG t∧t.id.length=32∧t.pt.x<Cu.K4∧t.pt.y<Cu.K4
def okTG (t:MTag):Bool:=if t.blind=true then okPT t.pt && decide (t.id=z32) else nulPT t.pt
def encTG (t:MTag):Byt:=[trB t.blind]++(if t.blind=true then encPT t.pt else t.id)
def rdTG:Ps MTag:=bindP truP λb=>if b=true then bindP ptP λp=>retP ⟨true,z32,p⟩ else bindP (takeP 32) λd=>retP ⟨false,d,⟨0,0,false⟩⟩
structure MAmt where
 blind:Bool
 value:Nat
 pt:MPt
def cAM (t:MAmt):List Value:=[.bool t.blind]++([.int .u64 (t.value:Int)]++lPT t.pt)
def repAM (_:Rdr) (cs:List Value) (t:MAmt):Prop:=cs=cAM t∧t.value<18446744073709551616∧t.pt.x<Cu.K4∧t.pt.y<Cu.K4
def okAM (t:MAmt):Bool:=if t.blind=true then okPT t.pt && decide (t.value=0) else nulPT t.pt
def encAM (t:MAmt):Byt:=[trB t.blind]++(if t.blind=true then encPT t.pt else nb 8 t.value)
def rdAM:Ps MAmt:=bindP truP λb=>if b=true then bindP ptP λp=>retP ⟨true,0,p⟩ else bindP (numP 8) λd=>retP ⟨false,d,⟨0,0,false⟩⟩
theorem tag_w:PutO 102 42 repTG okTG encTG (λ_=>34):=λw0 gc gw gx f bad s R b cs x hx _ hc hb hl w hw=>by
 obtain ⟨bl,id,p⟩:=x
 obtain ⟨rfl,h1,h2,h3⟩:=hx
 dsimp only at h1 h2 h3 hl
 have e1:(id.map bv).length=32:=by rw [List.length_map,h1]
 have c0:OwnAt R gx f ([.bool bl]++(id.map bv++lPT p)):=hc
 have c1:OwnAt R gx (f+1) (id.map bv++lPT p):=c0.right (n:=1) rfl
 have c2:OwnAt R gx (f+33) (lPT p):=by have q:=c1.right e1; rwa [Nat.add_assoc] at q
 have X0:rdC w0.inn R gx f (.bool bl):=(c0.at w0.inn).one
 have X1:XAt (rdC w0.inn R) gx (f+1) (id.map bv):=(c1.at w0.inn).left
 have X2:XAt (rdC w0.inn R) gx (f+33) (lPT p):=c2.at w0.inn
 refine Sy.enterT (args:=[ptr gc,.pointer (some ⟨gx,f,none⟩)]) hw Tryz.func102 rfl kL ?_
 refine sC ?_
 refine sp rfl<|sp rfl<|sp rfl<|sP (.pointer (some ⟨gx,f,none⟩)) ?_
 refine Sy.callT (λw hw=>truth_w w0.inn gc gw gx f bad s R b bl c0.left hb (by omega) w hw) (λu M hM=>?_)
 obtain ⟨s1,bad1,b1,q1,p1,rfl⟩:=hM
 have l1:=q1.len
 refine sA ?_
 refine sp rfl<|sp rfl<|sP (.pointer (some ⟨gx,f,none⟩))<|sS (.bool bl) (cellC (R:=R) X0 inCW rfl Tryz.underlying4) ?_
 refine sG ?_
 cases bl
 case' true =>
  refine sT<|sC ?_
  refine sp rfl<|sp rfl<|sp rfl<|sP (.pointer (some ⟨gx,f+33,none⟩)) ?_
  refine Sy.callT (λw hw=>point_w w0.inn gc gw gx (f+33) bad1 s1 R b1 (lPT p) p ⟨rfl,h2,h3⟩ rfl X2 p1 (by show _+33≤_; omega) w hw) (λu M hM=>?_)
  obtain ⟨s2,bad2,b2,q2,p2,rfl⟩:=hM
  obtain ⟨ok,hok⟩:∃ z:Bool,z=decide (id=z32):=⟨_,rfl⟩
  refine Sy.nil<|Sy.then_<|Sy.region ?_
  refine sp rfl<|sp rfl<|sp rfl<|sP (.pointer (some ⟨gx,f+1,none⟩))<|sS (.agg (id.map bv).toArray) (rowC (R:=R) (cs:=id.map bv) X1 inCW e1 rfl Tryz.underlying37)<|sP (.agg (z32.map bv).toArray)<|sS (.bool ok) (Quiet.pure (λw=>by rw [hok]; exact eql_dgs w _ _ _ _ id z32 h1 rfl rfl rfl rfl)) ?_
  refine Sy.callT (λw hw=>must_w w0.inn gc gw bad2 ok s2 R w hw) (λu M hM=>?_)
  subst hM
  refine Sy.nil ?_
  have q:=q1.then_ (q2.then_ (Wrote.must ok bad2 b2))
  rw [Bool.true_and,List.append_nil,hok] at q
  exact Sy.retT0 rfl (CWS gc gw (bad2 || !ok) s2 R) (λ_ h=>h) (λ_=>⟨s2,bad2 || !ok,b2,by rw [hok]; exact q,p2,rfl⟩)
 refine sU<|sC ?_
 refine sp rfl<|sp rfl<|sp rfl<|sP (.pointer (some ⟨gx,f+1,none⟩)) ?_
 refine Sy.callT (λw hw=>digest_w w0.inn gc gw gx (f+1) bad1 s1 R b1 id h1 X1 p1 (by omega) w hw) (λu M hM=>?_)
 obtain ⟨s2,bad2,b2,q2,p2,rfl⟩:=hM
 obtain ⟨ok,hok⟩:∃ z:Bool,z=nulPT p:=⟨_,rfl⟩
 refine Sy.nil<|Sy.then_<|Sy.region ?_
 refine sp rfl<|sp rfl<|sp rfl<|sP (.pointer (some ⟨gx,f+33,none⟩))<|sS (Cu.pv p.x p.y p.i) (rowC (R:=R) (cs:=lPT p) X2 inCW rfl rfl Tryz.underlying65)<|sP (Cu.pv 0 0 false)<|sS (.bool ok) (Quiet.pure (λw=>by rw [hok]; exact Cu.eql_pt w _ _ _ _ p.x p.y p.i 0 0 false rfl rfl rfl h2 h3 (by decide) (by decide))) ?_
 refine Sy.callT (λw hw=>must_w w0.inn gc gw bad2 ok s2 R w hw) (λu M hM=>?_)
 subst hM
 refine Sy.nil ?_
 have q:=(q1.then_ (q2.then_ (Wrote.must ok bad2 b2))).le (k':=34) (by omega)
 rw [Bool.true_and,Bool.true_and,List.append_nil,hok] at q
 exact Sy.retT0 rfl (CWS gc gw (bad2 || !ok) s2 R) (λ_ h=>h) (λ_=>⟨s2,bad2 || !ok,b2,by rw [hok]; exact q,p2,rfl⟩)
theorem amount_w:PutO 103 11 repAM okAM encAM (λ_=>34):=λw0 gc gw gx f bad s R b cs x hx _ hc hb hl w hw=>by
 obtain ⟨bl,va,p⟩:=x
 obtain ⟨rfl,h1,h2,h3⟩:=hx
 dsimp only at h1 h2 h3 hl
 have c0:OwnAt R gx f ([.bool bl]++([.int .u64 (va:Int)]++lPT p)):=hc
 have c1:OwnAt R gx (f+1) ([.int .u64 (va:Int)]++lPT p):=c0.right (n:=1) rfl
 have c2:OwnAt R gx (f+2) (lPT p):=c1.right (n:=1) rfl
 have X0:rdC w0.inn R gx f (.bool bl):=(c0.at w0.inn).one
 have X1:rdC w0.inn R gx (f+1) (.int .u64 (va:Int)):=(c1.at w0.inn).one
 have X2:XAt (rdC w0.inn R) gx (f+2) (lPT p):=c2.at w0.inn
 refine Sy.enterT (args:=[ptr gc,.pointer (some ⟨gx,f,none⟩)]) hw Tryz.func103 rfl kL ?_
 refine sC ?_
 refine sp rfl<|sp rfl<|sp rfl<|sP (.pointer (some ⟨gx,f,none⟩)) ?_
 refine Sy.callT (λw hw=>truth_w w0.inn gc gw gx f bad s R b bl c0.left hb (by omega) w hw) (λu M hM=>?_)
 obtain ⟨s1,bad1,b1,q1,p1,rfl⟩:=hM
 have l1:=q1.len
 refine sA ?_
 refine sp rfl<|sp rfl<|sP (.pointer (some ⟨gx,f,none⟩))<|sS (.bool bl) (cellC (R:=R) X0 inCW rfl Tryz.underlying4) ?_
 refine sG ?_
 cases bl
 case' true =>
  refine sT<|sC ?_
  refine sp rfl<|sp rfl<|sp rfl<|sP (.pointer (some ⟨gx,f+2,none⟩)) ?_
  refine Sy.callT (λw hw=>point_w w0.inn gc gw gx (f+2) bad1 s1 R b1 (lPT p) p ⟨rfl,h2,h3⟩ rfl X2 p1 (by show _+33≤_; omega) w hw) (λu M hM=>?_)
  obtain ⟨s2,bad2,b2,q2,p2,rfl⟩:=hM
  obtain ⟨ok,hok⟩:∃ z:Bool,z=decide (va=0):=⟨_,rfl⟩
  refine Sy.nil<|Sy.then_<|Sy.region ?_
  refine sp rfl<|sp rfl<|sp rfl<|sP (.pointer (some ⟨gx,f+1,none⟩))<|sS (.int .u64 (va:Int)) (cellC (R:=R) X1 inCW rfl Tryz.underlying22)<|sS (.bool ok) (Quiet.pure (exec_int .eql _ _ _ .u64 _ _ _ rfl rfl rfl (int_eql _ _ _ _ _ (by rw [hok]; exact decide_eq_decide.2 (by omega))))) ?_
  refine Sy.callT (λw hw=>must_w w0.inn gc gw bad2 ok s2 R w hw) (λu M hM=>?_)
  subst hM
  refine Sy.nil ?_
  have q:=q1.then_ (q2.then_ (Wrote.must ok bad2 b2))
  rw [Bool.true_and,List.append_nil,hok] at q
  exact Sy.retT0 rfl (CWS gc gw (bad2 || !ok) s2 R) (λ_ h=>h) (λ_=>⟨s2,bad2 || !ok,b2,by rw [hok]; exact q,p2,rfl⟩)
 refine sU<|sC ?_
 refine sp rfl<|sp rfl<|sp rfl<|sP (.pointer (some ⟨gx,f+1,none⟩)) ?_
 refine Sy.callT (λw hw=>long_w w0.inn gc gw gx (f+1) bad1 s1 R b1 va h1 X1 p1 (by omega) w hw) (λu M hM=>?_)
 obtain ⟨s2,bad2,b2,q2,p2,rfl⟩:=hM
 obtain ⟨ok,hok⟩:∃ z:Bool,z=nulPT p:=⟨_,rfl⟩
 refine Sy.nil<|Sy.then_<|Sy.region ?_
 refine sp rfl<|sp rfl<|sp rfl<|sP (.pointer (some ⟨gx,f+2,none⟩))<|sS (Cu.pv p.x p.y p.i) (rowC (R:=R) (cs:=lPT p) X2 inCW rfl rfl Tryz.underlying65)<|sP (Cu.pv 0 0 false)<|sS (.bool ok) (Quiet.pure (λw=>by rw [hok]; exact Cu.eql_pt w _ _ _ _ p.x p.y p.i 0 0 false rfl rfl rfl h2 h3 (by decide) (by decide))) ?_
 refine Sy.callT (λw hw=>must_w w0.inn gc gw bad2 ok s2 R w hw) (λu M hM=>?_)
 subst hM
 refine Sy.nil ?_
 have q:=(q1.then_ (q2.then_ (Wrote.must ok bad2 b2))).le (k':=34) (by omega)
 rw [Bool.true_and,Bool.true_and,List.append_nil,hok] at q
 exact Sy.retT0 rfl (CWS gc gw (bad2 || !ok) s2 R) (λ_ h=>h) (λ_=>⟨s2,bad2 || !ok,b2,by rw [hok]; exact q,p2,rfl⟩)
end Wr
end
section
namespace Wr
open Go.RowKit Sy
set_option maxRecDepth 100000
set_option maxHeartbeats 4000000
theorem mid_fit {A v Z:List Value} {f k:Nat} (hA:A.length=f) (hv:v.length=k):f+k≤(A++(v++Z)).length:=by rw [List.length_append,List.length_append,hA,hv]; omega
theorem tag_r:GetC 102 42 ([Value.bool false]++(Z32++lPT ⟨0,0,false⟩)) repTG rdTG:=λw0 gc gr gx f tx A Z sl s R S hS hA he hl hv w hw=>by
 refine Sy.enterT (args:=[ptr gc,.pointer (some ⟨gx,f,none⟩)]) hw Tryz.func102 rfl kL ?_
 refine sC ?_
 refine sp rfl<|sp rfl<|sp rfl<|sP (.pointer (some ⟨gx,f,none⟩)) ?_
 refine Sy.callT (λw hw=>truth_r w0.inn gc gr gx f tx A (Z32++(lPT ⟨0,0,false⟩++Z)) sl s R S hS hA he hl hv w (by simpa only [List.append_assoc] using hw)) (λu M hM=>?_)
 obtain ⟨x1,s1,sl1,cs1,N1,a1,n1,o1,rfl,e1,h1,y1,rfl⟩:=hM
 have hS1:∀ b∈S,b∈R++N1:=λb h=>List.mem_append_left _ (hS b h)
 refine sA ?_
 refine sp rfl<|sp rfl<|sP (.pointer (some ⟨gx,f,none⟩))<|sS (.bool x1) (Quiet.cell 1 gx f tx 4 (A++([Value.bool x1]++(Z32++(lPT ⟨0,0,false⟩++Z)))).toArray _ _ rfl kR rfl Tryz.underlying4 rfl _ (by rw [List.getElem?_toArray,List.getElem?_append_right (by omega),hA,Nat.sub_self]; rfl)) ?_
 refine sG ?_
 cases x1
 case' true =>
  have A1:(A++[Value.bool true]).length=f+1:=by rw [List.length_append,hA]; rfl
  have A2:(A++[Value.bool true]++Z32).length=f+33:=by rw [List.length_append,A1,Z32_len]
  refine sT<|sC ?_
  refine sp rfl<|sp rfl<|sp rfl<|sP (.pointer (some ⟨gx,f+33,none⟩)) ?_
  refine Sy.callT (λw hw=>point_r w0.inn gc gr gx (f+33) tx (A++[Value.bool true]++Z32) Z sl1 s1 (R++N1) S hS1 A2 e1 (Nat.le_trans h1 hl) y1 w (by simpa only [List.append_assoc] using hw)) (λu M hM=>?_)
  obtain ⟨m,s2,sl2,cs2,N2,a2,n2,o2,⟨rfl,b1,b2⟩,e2,h2,y2,rfl⟩:=hM
  refine Sy.permS (M:=CRS gc gr gx tx ((A++[Value.bool true])++(Z32++(lPT m++Z))) sl2 s2.e (R++N1++N2)) (List.Perm.of_eq (by rw [List.append_assoc (A++[Value.bool true])])) ?_
  refine Sy.nil<|Sy.then_<|Sy.region ?_
  refine sp rfl<|sp rfl<|sp rfl<|sP (.pointer (some ⟨gx,f+1,none⟩))<|sS (.agg (z32.map bv).toArray) (Quiet.mid 1 gx (f+1) 32 tx 37 ((A++[Value.bool true])++(Z32++(lPT m++Z))) Z32 _ _ rfl kR rfl Tryz.underlying37 rfl kR (mid_cells A1 Z32_len) (mid_fit A1 Z32_len))<|sP (.agg (z32.map bv).toArray)<|sS (.bool true) (Quiet.pure (λw=>(eql_dgs w _ _ _ _ z32 z32 rfl rfl rfl rfl rfl).trans (by rw [decide_eq_true rfl]))) ?_
  have p5:(CRS gc gr gx tx ((A++[Value.bool true])++(Z32++(lPT m++Z))) sl2 s2.e (R++N1++N2)).Perm (CRN gc gr sl2 s2.e ((gx,tx,((A++[Value.bool true])++(Z32++(lPT m++Z))).toArray)::(R++N1++N2))):=swap23
  refine Sy.permS p5 ?_
  refine Sy.callT (λw hw=>must_r w0.inn gc gr sl2 s2.e e2 ((gx,tx,((A++[Value.bool true])++(Z32++(lPT m++Z))).toArray)::(R++N1++N2)) true w hw) (λu M hM=>?_)
  subst hM
  rw [if_pos rfl]
  refine Sy.permS p5.symm ?_
  refine Sy.nil ?_
  have hAf:After rdTG s ⟨true,z32,m⟩ s2:=a1.bind (by rw [if_pos rfl]; exact a2.bind (After.ret _ _))
  have hLn:([Value.bool true]++(Z32++lPT m)).length=42:=rfl
  have hOn:∀ u∈([Value.bool true]++(Z32++lPT m)),u.oneCell'=true:=ones_app o1 (ones_app (ones_bW z32) o2)
  exact Sy.retT0 rfl (CRS gc gr gx tx (A++(([Value.bool true]++(Z32++lPT m))++Z)) sl2 s2.e (R++(N1++N2))) (λ_ h=>by simpa only [List.append_assoc,List.cons_append,List.nil_append] using h) (λ_=>⟨_,s2,sl2,_,N1++N2,hAf,hLn,hOn,⟨rfl,rfl,b1,b2⟩,e2,Nat.le_trans h2 h1,y2,rfl⟩)
 have A1:(A++[Value.bool false]).length=f+1:=by rw [List.length_append,hA]; rfl
 refine sU<|sC ?_
 refine sp rfl<|sp rfl<|sp rfl<|sP (.pointer (some ⟨gx,f+1,none⟩)) ?_
 refine Sy.callT (λw hw=>digest_r w0.inn gc gr gx (f+1) tx (A++[Value.bool false]) (lPT ⟨0,0,false⟩++Z) sl1 s1 (R++N1) S hS1 A1 e1 (Nat.le_trans h1 hl) y1 w (by simpa only [List.append_assoc] using hw)) (λu M hM=>?_)
 obtain ⟨m,s2,sl2,cs2,N2,a2,n2,o2,⟨rfl,b1⟩,e2,h2,y2,rfl⟩:=hM
 have A2:(A++[Value.bool false]++m.map bv).length=f+33:=by rw [List.length_append,A1,n2]
 refine Sy.permS (M:=CRS gc gr gx tx ((A++[Value.bool false]++m.map bv)++(lPT ⟨0,0,false⟩++Z)) sl2 s2.e (R++N1++N2)) (List.Perm.of_eq (by rw [List.append_assoc (A++[Value.bool false])])) ?_
 refine Sy.nil<|Sy.then_<|Sy.region ?_
 refine sp rfl<|sp rfl<|sp rfl<|sP (.pointer (some ⟨gx,f+33,none⟩))<|sS (Cu.pv 0 0 false) (Quiet.mid 1 gx (f+33) 9 tx 65 ((A++[Value.bool false]++m.map bv)++(lPT ⟨0,0,false⟩++Z)) (lPT ⟨0,0,false⟩) _ _ rfl kR rfl Tryz.underlying65 rfl kR (mid_cells A2 rfl) (mid_fit A2 rfl))<|sP (Cu.pv 0 0 false)<|sS (.bool true) (Quiet.pure (λw=>Cu.eql_pt w _ _ _ _ 0 0 false 0 0 false rfl rfl rfl (by decide) (by decide) (by decide) (by decide))) ?_
 have p5:(CRS gc gr gx tx ((A++[Value.bool false]++m.map bv)++(lPT ⟨0,0,false⟩++Z)) sl2 s2.e (R++N1++N2)).Perm (CRN gc gr sl2 s2.e ((gx,tx,((A++[Value.bool false]++m.map bv)++(lPT ⟨0,0,false⟩++Z)).toArray)::(R++N1++N2))):=swap23
 refine Sy.permS p5 ?_
 refine Sy.callT (λw hw=>must_r w0.inn gc gr sl2 s2.e e2 ((gx,tx,((A++[Value.bool false]++m.map bv)++(lPT ⟨0,0,false⟩++Z)).toArray)::(R++N1++N2)) true w hw) (λu M hM=>?_)
 subst hM
 rw [if_pos rfl]
 refine Sy.permS p5.symm ?_
 refine Sy.nil ?_
 ·have hAf:After rdTG s ⟨false,m,⟨0,0,false⟩⟩ s2:=a1.bind (by rw [if_neg (by decide)]; exact a2.bind (After.ret _ _))
  have hLn:([Value.bool false]++(m.map bv++lPT ⟨0,0,false⟩)).length=42:=by rw [List.length_append,List.length_append,n2]; rfl
  have hOn:∀ u∈([Value.bool false]++(m.map bv++lPT ⟨0,0,false⟩)),u.oneCell'=true:=ones_app o1 (ones_app o2 (lPT_one _))
  exact Sy.retT0 rfl (CRS gc gr gx tx (A++(([Value.bool false]++(m.map bv++lPT ⟨0,0,false⟩))++Z)) sl2 s2.e (R++(N1++N2))) (λ_ h=>by simpa only [List.append_assoc,List.cons_append,List.nil_append] using h) (λ_=>⟨_,s2,sl2,_,N1++N2,hAf,hLn,hOn,⟨rfl,b1,(show 0<Cu.K4 by decide),(show 0<Cu.K4 by decide)⟩,e2,Nat.le_trans h2 h1,y2,rfl⟩)
theorem amount_r:GetC 103 11 ([Value.bool false]++([Value.int .u64 0]++lPT ⟨0,0,false⟩)) repAM rdAM:=λw0 gc gr gx f tx A Z sl s R S hS hA he hl hv w hw=>by
 refine Sy.enterT (args:=[ptr gc,.pointer (some ⟨gx,f,none⟩)]) hw Tryz.func103 rfl kL ?_
 refine sC ?_
 refine sp rfl<|sp rfl<|sp rfl<|sP (.pointer (some ⟨gx,f,none⟩)) ?_
 refine Sy.callT (λw hw=>truth_r w0.inn gc gr gx f tx A ([Value.int .u64 0]++(lPT ⟨0,0,false⟩++Z)) sl s R S hS hA he hl hv w (by simpa only [List.append_assoc] using hw)) (λu M hM=>?_)
 obtain ⟨x1,s1,sl1,cs1,N1,a1,n1,o1,rfl,e1,h1,y1,rfl⟩:=hM
 have hS1:∀ b∈S,b∈R++N1:=λb h=>List.mem_append_left _ (hS b h)
 refine sA ?_
 refine sp rfl<|sp rfl<|sP (.pointer (some ⟨gx,f,none⟩))<|sS (.bool x1) (Quiet.cell 1 gx f tx 4 (A++([Value.bool x1]++([Value.int .u64 0]++(lPT ⟨0,0,false⟩++Z)))).toArray _ _ rfl kR rfl Tryz.underlying4 rfl _ (by rw [List.getElem?_toArray,List.getElem?_append_right (by omega),hA,Nat.sub_self]; rfl)) ?_
 refine sG ?_
 cases x1
 case' true =>
  have A1:(A++[Value.bool true]).length=f+1:=by rw [List.length_append,hA]; rfl
  have A2:(A++[Value.bool true]++[Value.int .u64 0]).length=f+2:=by rw [List.length_append,A1]; rfl
  refine sT<|sC ?_
  refine sp rfl<|sp rfl<|sp rfl<|sP (.pointer (some ⟨gx,f+2,none⟩)) ?_
  refine Sy.callT (λw hw=>point_r w0.inn gc gr gx (f+2) tx (A++[Value.bool true]++[Value.int .u64 0]) Z sl1 s1 (R++N1) S hS1 A2 e1 (Nat.le_trans h1 hl) y1 w (by simpa only [List.append_assoc] using hw)) (λu M hM=>?_)
  obtain ⟨m,s2,sl2,cs2,N2,a2,n2,o2,⟨rfl,b1,b2⟩,e2,h2,y2,rfl⟩:=hM
  refine Sy.permS (M:=CRS gc gr gx tx ((A++[Value.bool true])++([Value.int .u64 0]++(lPT m++Z))) sl2 s2.e (R++N1++N2)) (List.Perm.of_eq (by rw [List.append_assoc (A++[Value.bool true])])) ?_
  refine Sy.nil<|Sy.then_<|Sy.region ?_
  refine sp rfl<|sp rfl<|sp rfl<|sP (.pointer (some ⟨gx,f+1,none⟩))<|sS (.int .u64 0) (Quiet.cell 1 gx (f+1) tx 22 ((A++[Value.bool true])++([Value.int .u64 0]++(lPT m++Z))).toArray _ _ rfl kR rfl Tryz.underlying22 rfl _ (by rw [List.getElem?_toArray,List.getElem?_append_right (by omega),A1,Nat.sub_self]; rfl))<|sP (.bool true) ?_
  have p5:(CRS gc gr gx tx ((A++[Value.bool true])++([Value.int .u64 0]++(lPT m++Z))) sl2 s2.e (R++N1++N2)).Perm (CRN gc gr sl2 s2.e ((gx,tx,((A++[Value.bool true])++([Value.int .u64 0]++(lPT m++Z))).toArray)::(R++N1++N2))):=swap23
  refine Sy.permS p5 ?_
  refine Sy.callT (λw hw=>must_r w0.inn gc gr sl2 s2.e e2 ((gx,tx,((A++[Value.bool true])++([Value.int .u64 0]++(lPT m++Z))).toArray)::(R++N1++N2)) true w hw) (λu M hM=>?_)
  subst hM
  rw [if_pos rfl]
  refine Sy.permS p5.symm ?_
  refine Sy.nil ?_
  have hAf:After rdAM s ⟨true,0,m⟩ s2:=a1.bind (by rw [if_pos rfl]; exact a2.bind (After.ret _ _))
  have hLn:([Value.bool true]++([Value.int .u64 0]++lPT m)).length=11:=rfl
  have hOn:∀ u∈([Value.bool true]++([Value.int .u64 0]++lPT m)),u.oneCell'=true:=ones_app o1 (ones_app (λu hu=>by rw [List.mem_singleton.1 hu]; rfl) o2)
  exact Sy.retT0 rfl (CRS gc gr gx tx (A++(([Value.bool true]++([Value.int .u64 0]++lPT m))++Z)) sl2 s2.e (R++(N1++N2))) (λ_ h=>by simpa only [List.append_assoc,List.cons_append,List.nil_append] using h) (λ_=>⟨_,s2,sl2,_,N1++N2,hAf,hLn,hOn,⟨rfl,(show (0:Nat)<18446744073709551616 by decide),b1,b2⟩,e2,Nat.le_trans h2 h1,y2,rfl⟩)
 have A1:(A++[Value.bool false]).length=f+1:=by rw [List.length_append,hA]; rfl
 refine sU<|sC ?_
 refine sp rfl<|sp rfl<|sp rfl<|sP (.pointer (some ⟨gx,f+1,none⟩)) ?_
 refine Sy.callT (λw hw=>long_r w0.inn gc gr gx (f+1) tx (A++[Value.bool false]) (lPT ⟨0,0,false⟩++Z) sl1 s1 (R++N1) S hS1 A1 e1 (Nat.le_trans h1 hl) y1 w (by simpa only [List.append_assoc] using hw)) (λu M hM=>?_)
 obtain ⟨m,s2,sl2,cs2,N2,a2,n2,o2,⟨rfl,b1⟩,e2,h2,y2,rfl⟩:=hM
 have A2:(A++[Value.bool false]++[Value.int .u64 (m:Int)]).length=f+2:=by rw [List.length_append,A1,n2]
 refine Sy.permS (M:=CRS gc gr gx tx ((A++[Value.bool false]++[Value.int .u64 (m:Int)])++(lPT ⟨0,0,false⟩++Z)) sl2 s2.e (R++N1++N2)) (List.Perm.of_eq (by rw [List.append_assoc (A++[Value.bool false])])) ?_
 refine Sy.nil<|Sy.then_<|Sy.region ?_
 refine sp rfl<|sp rfl<|sp rfl<|sP (.pointer (some ⟨gx,f+2,none⟩))<|sS (Cu.pv 0 0 false) (Quiet.mid 1 gx (f+2) 9 tx 65 ((A++[Value.bool false]++[Value.int .u64 (m:Int)])++(lPT ⟨0,0,false⟩++Z)) (lPT ⟨0,0,false⟩) _ _ rfl kR rfl Tryz.underlying65 rfl kR (mid_cells A2 rfl) (mid_fit A2 rfl))<|sP (Cu.pv 0 0 false)<|sS (.bool true) (Quiet.pure (λw=>Cu.eql_pt w _ _ _ _ 0 0 false 0 0 false rfl rfl rfl (by decide) (by decide) (by decide) (by decide))) ?_
 have p5:(CRS gc gr gx tx ((A++[Value.bool false]++[Value.int .u64 (m:Int)])++(lPT ⟨0,0,false⟩++Z)) sl2 s2.e (R++N1++N2)).Perm (CRN gc gr sl2 s2.e ((gx,tx,((A++[Value.bool false]++[Value.int .u64 (m:Int)])++(lPT ⟨0,0,false⟩++Z)).toArray)::(R++N1++N2))):=swap23
 refine Sy.permS p5 ?_
 refine Sy.callT (λw hw=>must_r w0.inn gc gr sl2 s2.e e2 ((gx,tx,((A++[Value.bool false]++[Value.int .u64 (m:Int)])++(lPT ⟨0,0,false⟩++Z)).toArray)::(R++N1++N2)) true w hw) (λu M hM=>?_)
 subst hM
 rw [if_pos rfl]
 refine Sy.permS p5.symm ?_
 refine Sy.nil ?_
 ·have hAf:After rdAM s ⟨false,m,⟨0,0,false⟩⟩ s2:=a1.bind (by rw [if_neg (by decide)]; exact a2.bind (After.ret _ _))
  have hLn:([Value.bool false]++([Value.int .u64 (m:Int)]++lPT ⟨0,0,false⟩)).length=11:=by rw [List.length_append,List.length_append,n2]; rfl
  have hOn:∀ u∈([Value.bool false]++([Value.int .u64 (m:Int)]++lPT ⟨0,0,false⟩)),u.oneCell'=true:=ones_app o1 (ones_app o2 (lPT_one _))
  exact Sy.retT0 rfl (CRS gc gr gx tx (A++(([Value.bool false]++([Value.int .u64 (m:Int)]++lPT ⟨0,0,false⟩))++Z)) sl2 s2.e (R++(N1++N2))) (λ_ h=>by simpa only [List.append_assoc,List.cons_append,List.nil_append] using h) (λ_=>⟨_,s2,sl2,_,N1++N2,hAf,hLn,hOn,⟨rfl,b1,(show 0<Cu.K4 by decide),(show 0<Cu.K4 by decide)⟩,e2,Nat.le_trans h2 h1,y2,rfl⟩)
end Wr
end
section
namespace Wr
open Go.RowKit Sy
set_option maxRecDepth 100000
set_option maxHeartbeats 4000000
structure MOu where
 kind:Int
 asset:MTag
 amount:MAmt
 range:Byt
 surject:Byt
 note:Byt
 script:Byt
def okK (k:Int):Bool:=decide (1≤k) && decide (k≤4)
def cOU (o:MOu) (vr vs vn vc:Value):List Value:=[.int .i64 o.kind]++(cTG o.asset++(cAM o.amount++([vr]++([vs]++([vn]++[vc])))))
def repOU (C:Rdr) (cs:List Value) (o:MOu):Prop:=∃ vr vs vn vc,cs=cOU o vr vs vn vc∧(o.asset.id.length=32∧o.asset.pt.x<Cu.K4∧o.asset.pt.y<Cu.K4)∧(o.amount.value<18446744073709551616∧o.amount.pt.x<Cu.K4∧o.amount.pt.y<Cu.K4)∧BytR C vr o.range∧BytR C vs o.surject∧BytR C vn o.note∧BytR C vc o.script
theorem monoOU:Mono repOU:=λhl ⟨vr,vs,vn,vc,h1,h2,h3,h4,h5,h6,h7⟩=>⟨vr,vs,vn,vc,h1,h2,h3,h4.le hl,h5.le hl,h6.le hl,h7.le hl⟩
def encT (b:Byt):Byt:=varB b.length++b
def okOU (o:MOu):Bool:=okK o.kind && (okTG o.asset && (okAM o.amount && (decide (o.range.length≤6000) && (decide (o.surject.length≤6000) && (decide (o.note.length≤128) && decide (o.script.length≤256))))))
def encOU (o:MOu):Byt:=[octB o.kind]++(encTG o.asset++(encAM o.amount++(encT o.range++(encT o.surject++(encT o.note++encT o.script)))))
def wtOU (o:MOu):Nat:=1+(34+(34+((9+o.range.length)+((9+o.surject.length)+((9+o.note.length)+(9+o.script.length))))))
def rdOU:Ps MOu:=bindP octP λk=>bindP (mustP (okK k)) λ_=>bindP rdTG λa=>bindP rdAM λb=>bindP (textP 6000) λr=>bindP (textP 6000) λs=>bindP (textP 128) λn=>bindP (textP 256) λc=>retP ⟨k,a,b,r,s,n,c⟩
theorem okK_of {z:Int} (h:¬ (z=1∨z=2∨z=3∨z=4)):okK z=false:=by
 cases hb:okK z with
 | false=>rfl
 | true =>
  unfold okK at hb
  rw [Bool.and_eq_true,decide_eq_true_eq,decide_eq_true_eq] at hb
  exact (h (by omega)).elim
theorem okK_yes {z:Int} (h:z=1∨z=2∨z=3∨z=4):okK z=true∧okO z=true:=by rcases h with rfl | rfl | rfl | rfl <;> exact ⟨rfl,rfl⟩
theorem cTG_len {t:MTag} (h:t.id.length=32):(cTG t).length=42:=by unfold cTG; rw [List.length_append,List.length_append,List.length_map,h]; rfl
theorem out_w:PutO 53 58 repOU okOU encOU wtOU:=λw0 gc gw gx f bad s R b cs x hx _ hc hb hl w hw=>by
 obtain ⟨z,ta,am,rg,su,nt,sc⟩:=x
 obtain ⟨vr,vs,vn,vc,rfl,h1,h2,h3,h4,h5,h6⟩:=hx
 dsimp only at h1 h2 h3 h4 h5 h6
 unfold wtOU at hl
 dsimp only at hl
 have c0:OwnAt R gx f ([.int .i64 z]++(cTG ta++(cAM am++([vr]++([vs]++([vn]++[vc])))))):=hc
 have c1:OwnAt R gx (f+1) (cTG ta++(cAM am++([vr]++([vs]++([vn]++[vc]))))):=c0.right (n:=1) rfl
 have c2:OwnAt R gx (f+43) (cAM am++([vr]++([vs]++([vn]++[vc])))):=by have q:=c1.right (cTG_len h1.1); rwa [Nat.add_assoc] at q
 have c3:OwnAt R gx (f+54) ([vr]++([vs]++([vn]++[vc]))):=by have q:=c2.right (n:=11) rfl; rwa [Nat.add_assoc] at q
 have c4:OwnAt R gx (f+55) ([vs]++([vn]++[vc])):=c3.right (n:=1) rfl
 have c5:OwnAt R gx (f+56) ([vn]++[vc]):=c4.right (n:=1) rfl
 have c6:OwnAt R gx (f+57) [vc]:=c5.right (n:=1) rfl
 have X0:rdC w0.inn R gx f (.int .i64 z):=(c0.at w0.inn).one
 refine Sy.enterT (args:=[ptr gc,.pointer (some ⟨gx,f,none⟩)]) hw Tryz.func53 rfl kL ?_
 refine sC ?_
 refine sp rfl<|sp rfl<|sp rfl<|sP (.pointer (some ⟨gx,f,none⟩)) ?_
 refine Sy.callT (λw hw=>octet_w w0.inn gc gw gx f bad s R b z X0 hb (by omega) w hw) (λu M hM=>?_)
 obtain ⟨s1,bad1,b1,q1,p1,rfl⟩:=hM
 have l1:=q1.len
 refine sA ?_
 refine sp rfl<|sp rfl<|sP (.pointer (some ⟨gx,f,none⟩))<|sS (.int .i64 z) (cellC (R:=R) X0 inCW rfl Tryz.underlying3) ?_
 refine sG<|Sy.block<|Sy.seq<|Sy.block ?_
 by_cases hk:z=1∨z=2∨z=3∨z=4
 ·obtain ⟨k1,k2⟩:=okK_yes hk
  refine Sy.seq ?_
  refine cutC [(0,ptr gc),(1,.pointer (some ⟨gx,f,none⟩))] (CWS gc gw bad1 s1 R) ?_ ?_
  ·clear hl X0 c0 q1 k1 k2 hc
   rcases hk with rfl | rfl | rfl | rfl
   ·refine Sy.block<|Sy.block<|Sy.block<|Sy.block<|Sy.seq<|Sy.seq<|sC ?_
    refine sP (.bool true)<|sp rfl ?_
    refine sG<|sT<|Sy.exit<|Sy.then_exit<|Sy.then_exit<|Sy.in_exit<|Sy.in_<|Sy.in_<|Sy.in_ ?_
    exact meet (all_cons kR (all_cons kR all_nil)) (λ_ h=>h)
   ·refine Sy.block<|Sy.block<|Sy.block<|Sy.block<|Sy.seq<|Sy.seq<|sC ?_
    refine sP (.bool false)<|sp rfl ?_
    refine sG<|sU<|Sy.skip<|Sy.then_<|Sy.seq<|sC ?_
    refine sP (.bool true)<|sp rfl ?_
    refine sG<|sT<|Sy.exit<|Sy.then_exit<|Sy.then_exit ?_
    refine Sy.in_pass (by decide) ?_
    refine Sy.in_exit<|Sy.in_<|Sy.in_ ?_
    exact meet (all_cons kR (all_cons kR all_nil)) (λ_ h=>h)
   ·refine Sy.block<|Sy.block<|Sy.block<|Sy.block<|Sy.seq<|Sy.seq<|sC ?_
    refine sP (.bool false)<|sp rfl ?_
    refine sG<|sU<|Sy.skip<|Sy.then_<|Sy.seq<|sC ?_
    refine sP (.bool false)<|sp rfl ?_
    refine sG<|sU<|Sy.skip<|Sy.then_<|Sy.seq<|sC ?_
    refine sP (.bool true)<|sp rfl ?_
    refine sG<|sT<|Sy.exit<|Sy.then_exit<|Sy.then_exit ?_
    refine Sy.in_pass (by decide) ?_
    refine Sy.in_pass (by decide) ?_
    refine Sy.in_exit<|Sy.in_ ?_
    exact meet (all_cons kR (all_cons kR all_nil)) (λ_ h=>h)
   ·refine Sy.block<|Sy.block<|Sy.block<|Sy.block<|Sy.seq<|Sy.seq<|sC ?_
    refine sP (.bool false)<|sp rfl ?_
    refine sG<|sU<|Sy.skip<|Sy.then_<|Sy.seq<|sC ?_
    refine sP (.bool false)<|sp rfl ?_
    refine sG<|sU<|Sy.skip<|Sy.then_<|Sy.seq<|sC ?_
    refine sP (.bool false)<|sp rfl ?_
    refine sG<|sU<|Sy.skip<|Sy.then_<|sC ?_
    refine sP (.bool true)<|sp rfl ?_
    refine sG<|sT<|Sy.exit<|Sy.then_exit ?_
    refine Sy.in_pass (by decide) ?_
    refine Sy.in_pass (by decide) ?_
    refine Sy.in_pass (by decide) ?_
    refine Sy.in_exit ?_
    exact meet (all_cons kR (all_cons kR all_nil)) (λ_ h=>h)
  refine Sy.then_<|Sy.seq<|sC ?_
  refine sp rfl<|sp rfl<|sp rfl<|sP (.pointer (some ⟨gx,f+1,none⟩)) ?_
  refine Sy.callT (λw hw=>tag_w w0.inn gc gw gx (f+1) bad1 s1 R b1 (cTG ta) ta ⟨rfl,h1⟩ (cTG_len h1.1) c1.left p1 (by show _+34≤_; omega) w hw) (λu M hM=>?_)
  obtain ⟨s2,bad2,b2,q2,p2,rfl⟩:=hM
  have l2:b2.length≤b1.length+34:=q2.len
  refine sA ?_
  refine sp rfl<|sp rfl<|sp rfl<|sP (.pointer (some ⟨gx,f+43,none⟩)) ?_
  refine Sy.callT (λw hw=>amount_w w0.inn gc gw gx (f+43) bad2 s2 R b2 (cAM am) am ⟨rfl,h2⟩ rfl c2.left p2 (by show _+34≤_; omega) w hw) (λu M hM=>?_)
  obtain ⟨s3,bad3,b3,q3,p3,rfl⟩:=hM
  have l3:b3.length≤b2.length+34:=q3.len
  refine sA ?_
  refine sp rfl<|sp rfl<|sp rfl<|sP (.pointer (some ⟨gx,f+54,none⟩)) ?_
  refine Sy.callT (λw hw=>text_w w0.inn gc gw gx (f+54) bad3 s3 R b3 rg vr 6000 (by decide) h3 (c3.at w0.inn).one p3 (by omega) w hw) (λu M hM=>?_)
  obtain ⟨s4,bad4,b4,q4,p4,rfl⟩:=hM
  have l4:b4.length≤b3.length+(9+rg.length):=q4.len
  refine sA ?_
  refine sp rfl<|sp rfl<|sp rfl<|sP (.pointer (some ⟨gx,f+55,none⟩)) ?_
  refine Sy.callT (λw hw=>text_w w0.inn gc gw gx (f+55) bad4 s4 R b4 su vs 6000 (by decide) h4 (c4.at w0.inn).one p4 (by omega) w hw) (λu M hM=>?_)
  obtain ⟨s5,bad5,b5,q5,p5,rfl⟩:=hM
  have l5:b5.length≤b4.length+(9+su.length):=q5.len
  refine sA ?_
  refine sp rfl<|sp rfl<|sp rfl<|sP (.pointer (some ⟨gx,f+56,none⟩)) ?_
  refine Sy.callT (λw hw=>text_w w0.inn gc gw gx (f+56) bad5 s5 R b5 nt vn 128 (by decide) h5 (c5.at w0.inn).one p5 (by omega) w hw) (λu M hM=>?_)
  obtain ⟨s6,bad6,b6,q6,p6,rfl⟩:=hM
  have l6:b6.length≤b5.length+(9+nt.length):=q6.len
  refine Sy.nil<|Sy.then_<|Sy.region ?_
  refine sp rfl<|sp rfl<|sp rfl<|sP (.pointer (some ⟨gx,f+57,none⟩)) ?_
  refine Sy.callT (λw hw=>text_w w0.inn gc gw gx (f+57) bad6 s6 R b6 sc vc 256 (by decide) h6 (c6.at w0.inn).one p6 (by omega) w hw) (λu M hM=>?_)
  obtain ⟨s7,bad7,b7,q7,p7,rfl⟩:=hM
  have l7:b7.length≤b6.length+(9+sc.length):=q7.len
  refine Sy.nil<|Sy.then_<|Sy.exit ?_
  refine Sy.in_pass (by decide) ?_
  refine Sy.then_exit<|Sy.in_exit ?_
  have q:=q1.then_ (q2.then_ (q3.then_ (q4.then_ (q5.then_ (q6.then_ q7)))))
  rw [k2, ← k1] at q
  exact Sy.retT0 rfl (CWS gc gw bad7 s7 R) (λ_ h=>h) (λ_=>⟨s7,bad7,b7,q,p7,rfl⟩)
 refine Sy.seq<|Sy.block<|Sy.block<|Sy.block<|Sy.block<|Sy.seq<|Sy.seq<|sC ?_
 refine sS (.bool false) (Quiet.pure (exec_int .eql _ _ _ .i64 _ _ _ rfl rfl rfl (int_eql _ _ _ _ _ (decide_eq_false (λe=>hk (by simp [e]))))))<|sp rfl ?_
 refine sG<|sU<|Sy.skip<|Sy.then_<|Sy.seq<|sC ?_
 refine sS (.bool false) (Quiet.pure (exec_int .eql _ _ _ .i64 _ _ _ rfl rfl rfl (int_eql _ _ _ _ _ (decide_eq_false (λe=>hk (by simp [e]))))))<|sp rfl ?_
 refine sG<|sU<|Sy.skip<|Sy.then_<|Sy.seq<|sC ?_
 refine sS (.bool false) (Quiet.pure (exec_int .eql _ _ _ .i64 _ _ _ rfl rfl rfl (int_eql _ _ _ _ _ (decide_eq_false (λe=>hk (by simp [e]))))))<|sp rfl ?_
 refine sG<|sU<|Sy.skip<|Sy.then_<|sC ?_
 refine sS (.bool false) (Quiet.pure (exec_int .eql _ _ _ .i64 _ _ _ rfl rfl rfl (int_eql _ _ _ _ _ (decide_eq_false (λe=>hk (by simp [e]))))))<|sp rfl ?_
 refine sG<|sU<|Sy.skip<|Sy.then_<|Sy.exit ?_
 refine Sy.in_pass (by decide) ?_
 refine Sy.in_pass (by decide) ?_
 refine Sy.in_pass (by decide) ?_
 refine Sy.in_pass (by decide) ?_
 refine Sy.then_exit<|Sy.in_exit<|sB ?_
 refine sp rfl ?_
 refine Sy.callT (λw hw=>must_w w0.inn gc gw bad1 false s1 R w hw) (λu M hM=>?_)
 subst hM
 refine sG<|Sy.exit<|Sy.in_exit ?_
 have hno:okOU ⟨z,ta,am,rg,su,nt,sc⟩=false:=by unfold okOU; rw [okK_of hk]; rfl
 exact Sy.retT0 rfl (CWS gc gw (bad1 || !false) s1 R) (λ_ h=>h) (λ_=>⟨s1,bad1 || !false,b1,⟨by rw [hno]; cases bad1 <;> cases bad <;> rfl,λh=>(by cases bad1 <;> cases h),by unfold wtOU; dsimp only; omega⟩,p1,rfl⟩)
end Wr
end
section
namespace Wr
open Go.RowKit Sy
set_option maxRecDepth 100000
set_option maxHeartbeats 4000000
theorem opn_fe:Opn 63 4 (λ_ cs n=>cs=Cu.fws n∧n<Cu.K4) (λ_=>0):=⟨λ{H enc W fuel cs x} hl hf=>by
 match cs,hl with
 | [c0,c1,c2,c3],_ =>
  obtain ⟨n,h1,h2⟩:=Cu.words_trod Tryz.underlying63 Tryz.underlying22 (by kernel_rfl) hf
  refine ⟨n,⟨h2,h1⟩,λu hu=>?_,bulk_pos _⟩
  rw [h2] at hu
  simp only [Cu.fws,List.mem_cons,List.not_mem_nil,or_false] at hu
  rcases hu with rfl | rfl | rfl | rfl <;> rfl⟩
theorem opn_pt:Opn 65 9 repPT (λ_=>0):=(opn_s3 Tryz.underlying65 (by kernel_rfl) (by kernel_rfl) (by kernel_rfl) (by kernel_rfl) (by kernel_rfl) (by kernel_rfl) opn_fe opn_fe (opn_b Tryz.underlying4)).as λC cs (x,y,i) ⟨a0,a1,a2,e,⟨e0,h0⟩,⟨e1,h1⟩,e2⟩=>by
 obtain rfl:a2=[.bool i]:=e2
 subst e0 e1 e
 exact ⟨⟨x,y,i⟩,⟨rfl,h0,h1⟩,Nat.zero_le _⟩
theorem opn_tag:Opn 67 42 repTG (λ_=>0):=(opn_s3 Tryz.underlying67 (by kernel_rfl) (by kernel_rfl) (by kernel_rfl) (by kernel_rfl) (by kernel_rfl) (by kernel_rfl) (opn_b Tryz.underlying4) opn_dg opn_pt).as λC cs (b,d,p) ⟨a0,a1,a2,e,e0,⟨e1,h1⟩,⟨e2,h2⟩⟩=>by
 obtain rfl:a0=[.bool b]:=e0
 subst e1 e2 e
 exact ⟨⟨b,d,p⟩,⟨rfl,h1,h2⟩,Nat.zero_le _⟩
theorem opn_amt:Opn 69 11 repAM (λ_=>0):=(opn_s3 Tryz.underlying69 (by kernel_rfl) (by kernel_rfl) (by kernel_rfl) (by kernel_rfl) (by kernel_rfl) (by kernel_rfl) (opn_b Tryz.underlying4) opn_u64 opn_pt).as λC cs (b,d,p) ⟨a0,a1,a2,e,e0,⟨e1,h1⟩,⟨e2,h2⟩⟩=>by
 obtain rfl:a0=[.bool b]:=e0
 subst e1 e2 e
 exact ⟨⟨b,d,p⟩,⟨rfl,h1,h2⟩,Nat.zero_le _⟩
theorem opn_out:Opn 71 58 repOU (λo=>o.range.length+o.surject.length+o.note.length+o.script.length):=(opn_s7 Tryz.underlying71 (by kernel_rfl) (by kernel_rfl) (by kernel_rfl) (by kernel_rfl) (by kernel_rfl) (by kernel_rfl) (by kernel_rfl) (by kernel_rfl) (by kernel_rfl) (by kernel_rfl) (by kernel_rfl) (by kernel_rfl) (by kernel_rfl) (by kernel_rfl) (opn_i Tryz.underlying3) opn_tag opn_amt opn_raw opn_raw opn_raw opn_raw).as λC cs (k,t,a,r,s,n,c) ⟨a0,a1,a2,a3,a4,a5,a6,ec,e0,⟨e1,h1⟩,⟨e2,h2⟩,⟨v3,e3,h3⟩,⟨v4,e4,h4⟩,⟨v5,e5,h5⟩,⟨v6,e6,h6⟩⟩=>by
 obtain rfl:a0=[.int .i64 k]:=e0
 dsimp only at e1 e2 e3 e4 e5 e6 h1 h2 h3 h4 h5 h6
 subst e1 e2 e3 e4 e5 e6 ec
 exact ⟨⟨k,t,a,r,s,n,c⟩,⟨v3,v4,v5,v6,rfl,h1,h2,h3,h4,h5,h6⟩,by dsimp only; omega⟩
end Wr
end
section
namespace Wr
open Go.RowKit Sy
set_option maxRecDepth 100000
set_option maxHeartbeats 4000000
theorem saidR_any (w:World) (v:Value) (b:Byt) (hl:b.length≤8) (hv:BytR (rdW w) v b):Calls Tryz.prog 135 #[v] w (Gets w (.int .u64 ((said b:Nat):Int))):=by
 obtain ⟨A,n,cp,rfl,h2,h3,h4,h5⟩:=hv
 refine Sy.enter (args:=[.slice A n cp]) Tryz.func135 rfl kL ?_
 refine sC ?_
 refine sP (.int .u64 0) ?_
 refine sA ?_
 refine sP (.int .u64 0) ?_
 refine sG<|Sy.seq<|sC ?_
 refine sP (.int .i64 0) ?_
 refine sG<|Sy.block ?_
 refine Sy.loopT (Y:=Nat) n (λi a=>[(0,.slice A n cp),(3,.int .u64 (a:Int)),(4,.int .i64 (i:Int))]) (λ_ _=>[]) (λi a=>a=said (b.take i)) 0 rfl (all_cons kR (all_cons kR (all_cons kR all_nil))) (λ_ h=>h) (λi a hi ha=>?_)
 refine Sy.seq<|sC ?_
 obtain ⟨b2,hb2⟩:∃ z:Bool,z=decide (i<n):=⟨_,rfl⟩
 refine sp rfl<|sp rfl<|sP (.int .i64 (n:Int))<|sS (.bool b2) (Quiet.pure (exec_int .lss _ _ _ .i64 _ _ _ rfl rfl rfl (int_lss _ _ _ _ _ (by rw [hb2]; exact decide_eq_decide.2 (by omega))))) ?_
 refine sG ?_
 cases b2
 case' false =>
  have l2:¬ i<n:=of_decide_eq_false hb2.symm
  obtain rfl:i=n:=by omega
  refine sU<|Sy.exit<|Sy.then_exit<|Sy.then_exit<|Sy.in_exit<|Sy.then_<|sC ?_
  refine sp rfl<|sp rfl ?_
  refine sG<|Sy.ret ?_
  rw [show said b=a by rw [ha,List.take_of_length_le (by omega)]]
  exact rV (.int .u64 (a:Int)) rfl
 have l2:i<n:=of_decide_eq_true hb2.symm
 obtain ⟨u,hu⟩:∃ u,b[i]? = some u:=⟨_,List.getElem?_eq_getElem (by omega)⟩
 obtain ⟨g,o,hA,hq⟩:=h5 (by intro e; rw [e] at hu; cases hu)
 have ha2:a<72057594037927936:=by rw [ha]; exact said_lt8 b i (by omega)
 have hu2:=u.toNat_lt
 refine sT<|Sy.skip<|Sy.then_<|Sy.seq<|Sy.block<|Sy.region ?_
 refine sp rfl<|sS (.int .u64 ((256*a:Nat):Int)) (Quiet.pure (exec_int .mul _ _ _ .u64 _ _ _ rfl rfl rfl (int_mul _ _ _ _ _ (by rw [show (256:Int)*(a:Int)=((256*a:Nat):Int) by omega]; exact wrap_u64 (by omega) (by omega)))))<|sp rfl<|sp rfl<|sS (.pointer (some ⟨g,o+i*1,none⟩)) (Quiet.pure (exec_atO 27 _ _ _ A g o n cp i 1 .i64 hA rfl rfl rfl Tryz.underlying27 kF l2))<|sS (bv u) (Quiet.thereOne g (o+i*1) 5 _ _ rfl kR (hq i u hu).1 _ (by rw [Nat.mul_one]; exact (hq i u hu).2) Tryz.underlying5 rfl)<|sS (.int .u64 ((u.toNat:Nat):Int)) (Quiet.pure (λw=>conv_86 w _ _ _ u rfl rfl))<|sS (.int .u64 ((256*a+u.toNat:Nat):Int)) (Quiet.pure (exec_int .add _ _ _ .u64 _ _ _ rfl rfl rfl (int_add _ _ _ _ _ (by rw [← Int.natCast_add]; exact wrap_u64 (by omega) (by omega)))))<|sp rfl ?_
 refine Sy.nil<|Sy.in_<|Sy.then_<|Sy.region ?_
 refine sp rfl<|sS (.int .i64 ((i+1:Nat):Int)) (Quiet.pure (exec_int .add _ _ _ .i64 _ _ _ rfl rfl rfl (int_add _ _ _ _ _ ((wrap_i64 (by omega) (by omega)).trans (by omega)))))<|sp rfl ?_
 refine Sy.nil ?_
 exact Sy.againT (256*a+u.toNat) l2 (by show 256*a+u.toNat=_; rw [ha,said_take b i u hu]) (all_cons kR (all_cons kR (all_cons kR all_nil))) (λw h=>h)
abbrev rrV (sl:Value) (at_ e:Nat):Value:=.agg #[sl,.int .i64 (at_:Int),.int .i64 (e:Int)]
abbrev rrC (sl:Value) (at_ e:Nat):Array Value:=#[sl,.int .i64 (at_:Int),.int .i64 (e:Int)]
def rawN (b:Byt) (at_ e n:Nat):Nat×Nat×Byt:=if e≠0 then (at_,e,[]) else if b.length - at_<n then (at_,110,[]) else (at_+n,0,(b.drop at_).take n)
theorem rawR_any (w:World) (sl:Value) (b:Byt) (at_ e n:Nat) (hat:at_≤b.length) (hn:n≤70368744177664) (hl:b.length≤70368744177664) (hv:BytR (rdW w) sl b) :
  Calls Tryz.prog 155 #[rrV sl at_ e,.int .i64 (n:Int)] w (GetsN w (λv M=>∃ u,v=.tuple #[rrV sl (rawN b at_ e n).1 (rawN b at_ e n).2.1,u]∧ByN (rawN b at_ e n).2.2 u M)):=by
 have hv0:=hv
 obtain ⟨A,m,cp,rfl,h2,h3,h4,h5⟩:=hv
 refine Sy.enter (args:=[rrV (.slice A m cp) at_ e,.int .i64 (n:Int)]) Tryz.func155 rfl kL ?_
 refine sC ?_
 refine sM 166 (rrC (.slice A m cp) at_ e) (λg2=>?_)
 refine sM 166 (rrC (.slice none 0 0) 0 0) (λg4=>?_)
 refine sP (.slice none 0 0) ?_
 refine sG<|Sy.seq<|Sy.block<|sC ?_
 obtain ⟨b1,hb1⟩:∃ z:Bool,z=decide (e≠0):=⟨_,rfl⟩
 refine sP (.pointer (some ⟨g2,2,none⟩))<|sS (.int .i64 (e:Int)) (qc 0 2 rfl rfl Tryz.underlying28)<|sS (.bool b1) (Quiet.pure (exec_int .neq _ _ _ .i64 _ _ _ rfl rfl rfl (int_neq _ _ _ _ _ (by rw [hb1]; exact decide_eq_decide.2 (by omega)))))<|sp rfl ?_
 refine sG ?_
 cases b1
 case' true =>
  have l1:e≠0:=of_decide_eq_true hb1.symm
  have er:rawN b at_ e n=(at_,e,[]):=if_pos l1
  rw [er]
  refine sT<|sC ?_
  refine sS (rrV (.slice A m cp) at_ e) (qk 0 0 3 rfl rfl Tryz.underlying166)<|sw 1 rfl (rrC (.slice A m cp) at_ e) (wA rfl)<|sP (.slice none 0 0) ?_
  refine sG<|Sy.ret<|Sy.in_ret<|Sy.then_ret ?_
  exact Sy.retGM2 [] rfl (.inl (Sy.Res.cell (ty':=166) g4 1 (rrC (.slice A m cp) at_ e) _ (by kernel_rfl) rfl Tryz.underlying166 rfl (by kernel_rfl) rfl)) (.inl (show _=_ by kernel_rfl)) (λ_ h=>h.none) ⟨_,rfl,none,0,0,rfl,BS.nil⟩
 have l1:e=0:=Decidable.of_not_not (of_decide_eq_false hb1.symm)
 refine sU<|sC ?_
 refine sp rfl<|sS (.bool false) (Quiet.pure (exec_int .lss _ _ _ .i64 _ _ _ rfl rfl rfl (int_lss _ _ _ _ _ (decide_eq_false (by omega)))))<|sp rfl ?_
 refine sG<|sU<|sC ?_
 obtain ⟨b2,hb2⟩:∃ z:Bool,z=decide (m - at_<n):=⟨_,rfl⟩
 refine sp rfl<|sP (.pointer (some ⟨g2,0,none⟩))<|sS (.slice A m cp) (qc 0 0 rfl rfl Tryz.underlying27)<|sP (.int .i64 (m:Int))<|sP (.pointer (some ⟨g2,1,none⟩))<|sS (.int .i64 (at_:Int)) (qc 0 1 rfl rfl Tryz.underlying3)<|sS (.int .i64 ((m - at_:Nat):Int)) (Quiet.pure (exec_int .sub _ _ _ .i64 _ _ _ rfl rfl rfl (int_sub _ _ _ _ _ ((wrap_i64 (by omega) (by omega)).trans (by omega)))))<|sS (.bool b2) (Quiet.pure (exec_int .gtr _ _ _ .i64 _ _ _ rfl rfl rfl (int_gtr _ _ _ _ _ (by rw [hb2]; exact decide_eq_decide.2 (by omega)))))<|sp rfl ?_
 refine sG ?_
 cases b2
 case' true =>
  have l2:m - at_<n:=of_decide_eq_true hb2.symm
  have er:rawN b at_ e n=(at_,110,[]):=by unfold rawN; rw [if_neg (λh=>h l1),if_pos (by omega)]
  rw [er]
  refine sT<|sC ?_
  refine sP (.pointer (some ⟨g2,2,none⟩))<|sw 0 rfl (rrC (.slice A m cp) at_ 110) (wO 2 28 (.int .i64 110) rfl) ?_
  refine sA ?_
  refine sS (rrV (.slice A m cp) at_ 110) (qk 0 0 3 rfl rfl Tryz.underlying166)<|sw 1 rfl (rrC (.slice A m cp) at_ 110) (wA rfl)<|sP (.slice none 0 0) ?_
  refine sG<|Sy.ret<|Sy.in_ret<|Sy.then_ret ?_
  exact Sy.retGM2 [] rfl (.inl (Sy.Res.cell (ty':=166) g4 1 (rrC (.slice A m cp) at_ 110) _ (by kernel_rfl) rfl Tryz.underlying166 rfl (by kernel_rfl) rfl)) (.inl (show _=_ by kernel_rfl)) (λ_ h=>h.none) ⟨_,rfl,none,0,0,rfl,BS.nil⟩
 have l2:¬ m - at_<n:=of_decide_eq_false hb2.symm
 obtain ⟨x,hx⟩:∃ x,x=(b.drop at_).take n:=⟨_,rfl⟩
 have er:rawN b at_ e n=(at_+n,0,x):=by unfold rawN; rw [if_neg (λh=>h l1),if_neg (by omega),hx]
 rw [er]
 have hxl:x.length=n:=by rw [hx,List.length_take,List.length_drop]; omega
 obtain ⟨A2,hA2⟩:∃ A2,sliced A at_ (at_+n) cp 1=.slice A2 (at_+n - at_) (cp - at_):=⟨_,rfl⟩
 have hv2:BytR (rdC (Base.of w) []) (.slice A2 (at_+n - at_) (cp - at_)) x:=by
  have q:=(hv0.slice (l:=at_) (m:=at_+n) (by omega) (by omega)).le (rdW_base (R:=[]))
  rw [hA2,Nat.add_sub_cancel_left] at q
  rw [hx,Nat.add_sub_cancel_left]; exact q
 subst l1
 refine sU<|Sy.skip<|Sy.in_<|sB ?_
 refine sP (.slice none 0 0) ?_
 refine sA ?_
 refine sp rfl<|sP (.pointer (some ⟨g2,0,none⟩))<|sS (.slice A m cp) (qc 0 0 rfl rfl Tryz.underlying27)<|sP (.pointer (some ⟨g2,1,none⟩))<|sS (.int .i64 (at_:Int)) (qc 0 1 rfl rfl Tryz.underlying3)<|sP (.pointer (some ⟨g2,1,none⟩))<|sS (.int .i64 (at_:Int)) (qc 0 1 rfl rfl Tryz.underlying3)<|sp rfl<|sS (.int .i64 ((at_+n:Nat):Int)) (Quiet.pure (exec_int .add _ _ _ .i64 _ _ _ rfl rfl rfl (int_add _ _ _ _ _ ((wrap_i64 (by omega) (by omega)).trans (by omega)))))<|sS (.slice A2 (at_+n - at_) (cp - at_)) (Quiet.pure (λw=>by rw [← hA2]; exact exec_slh _ _ _ _ m cp at_ (at_+n) rfl rfl rfl rfl (by omega) (by omega) w)) ?_
 refine Sy.appendM (pre:=[(g2,166,rrC (.slice A m cp) at_ 0),(g4,166,rrC (.slice none 0 0) 0 0)]) (r:=nilS) (T:=[]) kR 27 5 _ _ 1 1 Tryz.underlying27 Cu.info_u8 rfl rfl rfl rfl (by decide) _ _ rfl BS.nil kR (byL_one x) (byL_oneC x) A2 (at_+n - at_) (cp - at_) (by rw [byL_len,hxl]; omega) (by omega) kR (λr=>BytR.from hv2 (λy hy=>by cases hy)) (by rw [byL_len]; show (0+_)*1≤_; omega) (by rw [byL_len]; show 0+_≤_; simp only [maxLen]; omega) (λr hr=>?_)
 have hr':BS r x:=hr
 refine sp rfl ?_
 refine sA ?_
 refine sP (.pointer (some ⟨g2,1,none⟩))<|sS (.int .i64 (at_:Int)) (qc 0 1 rfl rfl Tryz.underlying3)<|sp rfl<|sS (.int .i64 ((at_+n:Nat):Int)) (Quiet.pure (exec_int .add _ _ _ .i64 _ _ _ rfl rfl rfl (int_add _ _ _ _ _ ((wrap_i64 (by omega) (by omega)).trans (by omega)))))<|sP (.pointer (some ⟨g2,1,none⟩))<|sw 0 rfl (rrC (.slice A m cp) (at_+n) 0) (wO 1 3 (.int .i64 ((at_+n:Nat):Int)) rfl) ?_
 refine sA ?_
 refine sS (rrV (.slice A m cp) (at_+n) 0) (qk 0 0 3 rfl rfl Tryz.underlying166)<|sp rfl<|sw 1 rfl (rrC (.slice A m cp) (at_+n) 0) (wA rfl)<|sp rfl ?_
 refine sG<|Sy.ret ?_
 exact Sy.retGM2 r.bl rfl (.inl (Sy.Res.cell (ty':=166) g4 1 (rrC (.slice A m cp) (at_+n) 0) _ (by kernel_rfl) rfl Tryz.underlying166 rfl (by kernel_rfl) rfl)) (.inl (show _=_ by kernel_rfl)) (λ_ h=>Sy.St.less (L:=[(g2,166,rrC (.slice A m cp) (at_+n) 0),(g4,166,rrC (.slice A m cp) (at_+n) 0)]++(r.bl++[])) h (by rw [List.append_nil]; exact List.sublist_append_right _ _)) ⟨_,rfl,hr'.as⟩
theorem rawN_len (b:Byt) (at_ e n:Nat):(rawN b at_ e n).2.2.length≤n:=by
 unfold rawN
 split
 ·exact Nat.zero_le _
 ·split
  ·exact Nat.zero_le _
  ·show (List.take _ _).length≤_; rw [List.length_take]; omega
theorem getR_any (w:World) (sl:Value) (b:Byt) (at_ e n:Nat) (hat:at_≤b.length) (hn:n≤8) (hl:b.length≤70368744177664) (hv:BytR (rdW w) sl b) :
  Calls Tryz.prog 186 #[rrV sl at_ e,.int .i64 (n:Int)] w (Gets w (.tuple #[rrV sl (rawN b at_ e n).1 (rawN b at_ e n).2.1,.int .u64 ((said (rawN b at_ e n).2.2:Nat):Int)])):=by
 have hv0:=hv
 have hxl:=rawN_len b at_ e n
 obtain ⟨f,hf⟩:∃ f,f=rawN b at_ e n:=⟨_,rfl⟩
 rw [← hf] at hxl ⊢
 obtain ⟨A,m,cp,rfl,h2,h3,h4,h5⟩:=hv
 refine Sy.enter (args:=[rrV (.slice A m cp) at_ e,.int .i64 (n:Int)]) Tryz.func186 rfl kL ?_
 refine sC ?_
 refine sM 166 (rrC (.slice A m cp) at_ e) (λg2=>?_)
 refine sM 166 (rrC (.slice none 0 0) 0 0) (λg4=>?_)
 refine sP (.int .u64 0) ?_
 refine sA ?_
 refine sS (rrV (.slice A m cp) at_ e) (qk 0 0 3 rfl rfl Tryz.underlying166)<|sp rfl ?_
 refine Sy.callN kR 155 #[rrV (.slice A m cp) at_ e,.int .i64 (n:Int)] kF _ (λw' hw=>rawR_any w' (.slice A m cp) b at_ e n hat (by omega) hl (hv0.at hw)) (λu M hM=>?_)
 rw [← hf] at hM
 obtain ⟨u,rfl,hu⟩:=hM
 refine sp rfl<|sp rfl<|sp rfl<|sw 0 rfl (rrC (.slice A m cp) f.1 f.2.1) (wA rfl)<|sp rfl ?_
 refine Sy.nil ?_
 refine sR (λj=>j == 3) ?_
 refine sa 1 rfl rfl<|sD 2 rfl (.int .u64 ((said f.2.2:Nat):Int)) (qg (λw' hw=>saidR_any w' u f.2.2 (by omega) (hu.byt.le (λg o v h=>rdC_world (w0:=Base.of w) hw (R:=M) (λb hb=>List.mem_cons_of_mem _ (List.mem_cons_of_mem _ hb)) g o v (.inr h)))))<|sD 0 rfl (rrV (.slice A m cp) f.1 f.2.1) (qk 0 0 3 rfl rfl Tryz.underlying166)<|sx 3 rfl 1 rfl (rrC (.slice A m cp) f.1 f.2.1) (wA rfl)<|sa 4 rfl rfl ?_
 refine sI ?_
 refine Sy.ret ?_
 exact Sy.ret2 rfl (.inl (Sy.Res.cell (ty':=166) g4 1 (rrC (.slice A m cp) f.1 f.2.1) _ (by kernel_rfl) rfl Tryz.underlying166 rfl (by kernel_rfl) rfl)) (.inl (show _=_ by kernel_rfl))
end Wr
end
section
namespace Wr
open Go.RowKit Sy
set_option maxRecDepth 100000
set_option maxHeartbeats 4000000
theorem BS.one (g:Nat) (x:UInt8):BS ⟨.slice (some ⟨g,0,none⟩) 1 1,[(g,5,#[bv x])]⟩ [x]:=⟨byL_one [x],byL_oneC [x],.inr ⟨g,1,[],rfl,rfl,Nat.le_refl _,by decide⟩⟩
theorem ofNat_mod (q:Nat):UInt8.ofNat (q%256)=UInt8.ofNat q:=by apply UInt8.toNat_inj.1; simp [UInt8.toNat_ofNat']
theorem numberR_any (w:World) (n k:Nat) (hn:n<18446744073709551616) (hk:k≤8):Calls Tryz.prog 125 #[.int .u64 (n:Int),.int .i64 (k:Int)] w (GetsN w (ByN (nb k n))):=by
 refine Sy.enter (args:=[.int .u64 (n:Int),.int .i64 (k:Int)]) Tryz.func125 rfl kL ?_
 refine sC ?_
 refine sP (.slice none 0 0) ?_
 refine sA ?_
 refine sP (.slice none 0 0) ?_
 refine sG<|Sy.seq<|sC ?_
 refine sp rfl<|sS (.int .i64 ((k:Int) - 1)) (Quiet.pure (exec_int .sub _ _ _ .i64 _ _ _ rfl rfl rfl (int_sub _ _ _ _ _ (wrap_i64 (by omega) (by omega)))))<|sp rfl ?_
 refine sG<|Sy.block ?_
 refine Sy.loopT (Y:=Slc×Int) k (λi y=>[(0,.int .u64 (n:Int)),(1,.int .i64 (k:Int)),(5,y.1.v),(6,.int .i64 y.2)]) (λi y=>y.1.bl++[]) (λi y=>BS y.1 ((nb k n).take i)∧y.2=(k:Int) - 1 - (i:Int)) (nilS,(k:Int) - 1) ⟨BS.nil,by show _=(k:Int) - 1 - ((0:Nat):Int); omega⟩ (all_cons kR (all_cons kR (all_cons kR (all_cons kR all_nil)))) (λ_ h=>h) (λi y hi hy=>?_)
 obtain ⟨s,z⟩:=y
 obtain ⟨hs,hz⟩:=hy
 dsimp only at hs hz ⊢
 refine Sy.seq<|sC ?_
 obtain ⟨b1,hb1⟩:∃ z:Bool,z=decide (i<k):=⟨_,rfl⟩
 refine sp rfl<|sS (.bool b1) (Quiet.pure (exec_int .geq _ _ _ .i64 _ _ _ rfl rfl rfl (int_geq _ _ _ _ _ (by rw [hb1]; exact decide_eq_decide.2 (by omega))))) ?_
 refine sG ?_
 cases b1
 case' false =>
  have l1:¬ i<k:=of_decide_eq_false hb1.symm
  obtain rfl:i=k:=by omega
  refine sU<|Sy.exit<|Sy.then_exit<|Sy.then_exit<|Sy.in_exit<|Sy.then_<|sC ?_
  refine sp rfl<|sp rfl ?_
  refine sG<|Sy.ret ?_
  rw [List.take_of_length_le (by rw [nb_len]; exact Nat.le_refl _)] at hs
  exact Sy.retGM s.bl rfl (.inl (show _=_ by kernel_rfl)) (λ_ h=>by rw [List.append_nil] at h; exact h) hs.as
 have l1:i<k:=of_decide_eq_true hb1.symm
 obtain ⟨m,hm⟩:∃ m:Nat,m=k - 1 - i:=⟨_,rfl⟩
 obtain rfl:z=(m:Int):=by omega
 refine sT<|Sy.skip<|Sy.then_<|Sy.seq<|Sy.block<|sC ?_
 refine sp rfl<|sp rfl ?_
 refine sG<|Sy.seq<|sC ?_
 refine sP (.int .i64 0) ?_
 refine sG<|Sy.block ?_
 refine Sy.loopT (Y:=Nat) m (λj q=>[(0,.int .u64 (n:Int)),(1,.int .i64 (k:Int)),(5,s.v),(6,.int .i64 (m:Int)),(7,.int .u64 (q:Int)),(8,.int .i64 (j:Int))]) (λ_ _=>s.bl++[]) (λj q=>q=n / 256 ^ j) n (by rw [Nat.pow_zero,Nat.div_one]) (all_cons kR (all_cons kR (all_cons kR (all_cons kR (all_cons kR (all_cons kR all_nil)))))) (λ_ h=>h) (λj q hj hq=>?_)
 dsimp only at hq ⊢
 have hq2:q<18446744073709551616:=by rw [hq]; exact Nat.lt_of_le_of_lt (Nat.div_le_self _ _) hn
 refine Sy.seq<|sC ?_
 obtain ⟨b2,hb2⟩:∃ z:Bool,z=decide (j<m):=⟨_,rfl⟩
 refine sp rfl<|sp rfl<|sS (.bool b2) (Quiet.pure (exec_int .lss _ _ _ .i64 _ _ _ rfl rfl rfl (int_lss _ _ _ _ _ (by rw [hb2]; exact decide_eq_decide.2 (by omega))))) ?_
 refine sG ?_
 cases b2
 case' true =>
  have l2:j<m:=of_decide_eq_true hb2.symm
  refine sT<|Sy.skip<|Sy.then_<|Sy.seq<|Sy.block<|Sy.region ?_
  refine sp rfl<|sS (.int .u64 ((q / 256:Nat):Int)) (Quiet.pure (exec_int .quo _ _ _ .u64 _ _ _ rfl rfl rfl (int_quo _ _ _ _ _ (by decide) (by rw [show (q:Int).tdiv 256=((q / 256:Nat):Int) from rfl]; exact wrap_u64 (by omega) (by omega)))))<|sp rfl ?_
  refine Sy.nil<|Sy.in_<|Sy.then_<|Sy.region ?_
  refine sp rfl<|sS (.int .i64 ((j+1:Nat):Int)) (Quiet.pure (exec_int .add _ _ _ .i64 _ _ _ rfl rfl rfl (int_add _ _ _ _ _ ((wrap_i64 (by omega) (by omega)).trans (by omega)))))<|sp rfl ?_
  refine Sy.nil ?_
  exact Sy.againT (q / 256) l2 (by show q / 256=n / 256 ^ (j+1); rw [hq,Nat.div_div_eq_div_mul,Nat.pow_succ]) (all_cons kR (all_cons kR (all_cons kR (all_cons kR (all_cons kR (all_cons kR all_nil)))))) (λw h=>h)
 have l2:¬ j<m:=of_decide_eq_false hb2.symm
 obtain rfl:j=m:=by omega
 obtain ⟨x,hx⟩:∃ x,x=UInt8.ofNat (q%256):=⟨_,rfl⟩
 have hln:((nb k n).take i).length≤8:=by rw [List.length_take,nb_len]; omega
 refine sU<|Sy.exit<|Sy.then_exit<|Sy.then_exit<|Sy.in_exit<|Sy.then_<|Sy.region ?_
 refine sp rfl<|sp rfl<|sS (.int .u64 ((q%256:Nat):Int)) (Quiet.pure (exec_int .rem _ _ _ .u64 _ _ _ rfl rfl rfl (int_rem _ _ _ _ _ (by decide) rfl)))<|sS (bv x) (Quiet.pure (λw=>by rw [hx]; exact conv_6u8 w _ _ _ _ (by omega) rfl rfl)) ?_
 refine Sy.make kR 5 #[bv x] (λg=>.slice (some ⟨g,0,none⟩) 1 1) kF (λg1=>?_)
 refine Sy.movT (pre:=[]) (T:=s.bl++[]) ?_
 refine Sy.appendR (pre:=[(g1,5,#[bv x])]) (T:=[]) kR 27 5 _ _ 1 1 Tryz.underlying27 Cu.info_u8 rfl rfl rfl rfl (by decide) _ _ rfl hs kR [bv x] rfl (λu hu=>by rw [List.mem_singleton.1 hu]; rfl) 0 g1 5 kR kR (by rw [byL_len]; omega) (by rw [byL_len]; simp only [maxLen]; omega) (λr hr=>?_)
 refine sp rfl ?_
 refine Sy.nil<|Sy.in_<|Sy.then_<|Sy.region ?_
 refine sp rfl<|sS (.int .i64 ((j:Int) - 1)) (Quiet.pure (exec_int .sub _ _ _ .i64 _ _ _ rfl rfl rfl (int_sub _ _ _ _ _ (wrap_i64 (by omega) (by omega)))))<|sp rfl ?_
 refine Sy.nil ?_
 have hr':BS r ((nb k n).take (i+1)):=by
  have e:byL ((nb k n).take (i+1))=byL ((nb k n).take i)++[[bv x]]:=by
   rw [nb_take k n i l1,byL_app,hx,hq,ofNat_mod,hm]
   rfl
  show r.Is 5 1 _
  rw [e]
  exact hr
 exact Sy.againT (r,(j:Int) - 1) l1 ⟨hr',by show (j:Int) - 1=_; omega⟩ (all_cons kR (all_cons kR (all_cons kR (all_cons kR all_nil)))) (λw h=>h.less (List.sublist_cons_self _ _))
theorem varR_any (w:World) (n:Nat) (hn:n<18446744073709551616):Calls Tryz.prog 127 #[.int .u64 (n:Int)] w (GetsN w (ByN (varB n))):=by
 refine Sy.enter (args:=[.int .u64 (n:Int)]) Tryz.func127 rfl kL ?_
 refine sC ?_
 refine sP (.slice none 0 0) ?_
 refine sG<|Sy.seq<|sC ?_
 obtain ⟨b1,hb1⟩:∃ z:Bool,z=decide (n<253):=⟨_,rfl⟩
 refine sp rfl<|sS (.bool b1) (Quiet.pure (exec_int .lss _ _ _ .u64 _ _ _ rfl rfl rfl (int_lss _ _ _ _ _ (by rw [hb1]; exact decide_eq_decide.2 (by omega))))) ?_
 refine sG ?_
 cases b1
 case' true =>
  have l1:n<253:=of_decide_eq_true hb1.symm
  obtain ⟨x,hx⟩:∃ x,x=UInt8.ofNat n:=⟨_,rfl⟩
  refine sT<|sC ?_
  refine sp rfl<|sS (bv x) (Quiet.pure (λw=>by rw [hx]; exact conv_6u8 w _ _ _ _ hn rfl rfl)) ?_
  refine Sy.make kR 5 #[bv x] (λg=>.slice (some ⟨g,0,none⟩) 1 1) kF (λg1=>?_)
  refine sp rfl ?_
  refine sG<|Sy.ret<|Sy.then_ret ?_
  rw [show varB n=[x] by unfold varB; rw [if_pos l1,hx]]
  exact Sy.retGM [(g1,5,#[bv x])] rfl (.inl (show _=_ by kernel_rfl)) (λ_ h=>h) (BS.one g1 x).as
 have l1:¬ n<253:=of_decide_eq_false hb1.symm
 refine sU<|Sy.skip<|sB ?_
 refine sP (bv 253) ?_
 refine sA ?_
 refine sP (.int .i64 2) ?_
 refine sG ?_
 obtain ⟨c1,hc1⟩:∃ c:UInt8×Nat,c=if 65536≤n then (254,4) else (253,2):=⟨_,rfl⟩
 obtain ⟨c2,hc2⟩:∃ c:UInt8×Nat,c=if 4294967296≤n then (255,8) else c1:=⟨_,rfl⟩
 have hv:varB n=c2.1::nb c2.2 n:=by
  unfold varB
  rw [if_neg l1,hc2,hc1]
  by_cases h1:n<65536
  ·rw [if_pos h1,if_neg (show ¬ 4294967296≤n by omega),if_neg (show ¬ 65536≤n by omega)]
  ·rw [if_neg h1]
   by_cases h2:n<4294967296
   ·rw [if_pos h2,if_neg (show ¬ 4294967296≤n by omega),if_pos (show 65536≤n by omega)]
   ·rw [if_neg h2,if_pos (show 4294967296≤n by omega)]
 have hc8:c2.2≤8:=by
  rw [hc2,hc1]
  split
  ·exact Nat.le_refl _
  ·split
   ·show 4≤8; omega
   ·show 2≤8; omega
 refine Sy.seq ?_
 refine cutC [(0,.int .u64 (n:Int)),(3,bv c1.1),(4,.int .i64 ((c1.2:Nat):Int))] [] ?_ ?_
 ·refine sC ?_
  obtain ⟨b2,hb2⟩:∃ z:Bool,z=decide (65536≤n):=⟨_,rfl⟩
  refine sp rfl<|sS (.bool b2) (Quiet.pure (exec_int .geq _ _ _ .u64 _ _ _ rfl rfl rfl (int_geq _ _ _ _ _ (by rw [hb2]; exact decide_eq_decide.2 (by omega))))) ?_
  refine sG ?_
  cases b2
  ·rw [if_neg (of_decide_eq_false hb2.symm)] at hc1
   rw [hc1]
   refine sU<|Sy.skip ?_
   exact meet (all_cons kR (all_cons kR (all_cons kR all_nil))) (λ_ h=>h)
  ·rw [if_pos (of_decide_eq_true hb2.symm)] at hc1
   rw [hc1]
   refine sT<|Sy.region ?_
   refine sP (bv 254)<|sP (.int .i64 4) ?_
   refine Sy.nil ?_
   exact meet (all_cons kR (all_cons kR (all_cons kR all_nil))) (λ_ h=>h)
 clear hc1
 refine Sy.then_<|Sy.seq ?_
 refine cutC [(0,.int .u64 (n:Int)),(3,bv c2.1),(4,.int .i64 ((c2.2:Nat):Int))] [] ?_ ?_
 ·refine sC ?_
  obtain ⟨b2,hb2⟩:∃ z:Bool,z=decide (4294967296≤n):=⟨_,rfl⟩
  refine sp rfl<|sS (.bool b2) (Quiet.pure (exec_int .geq _ _ _ .u64 _ _ _ rfl rfl rfl (int_geq _ _ _ _ _ (by rw [hb2]; exact decide_eq_decide.2 (by omega))))) ?_
  refine sG ?_
  cases b2
  ·rw [if_neg (of_decide_eq_false hb2.symm)] at hc2
   rw [hc2]
   refine sU<|Sy.skip ?_
   exact meet (all_cons kR (all_cons kR (all_cons kR all_nil))) (λ_ h=>h)
  ·rw [if_pos (of_decide_eq_true hb2.symm)] at hc2
   rw [hc2]
   refine sT<|Sy.region ?_
   refine sP (bv 255)<|sP (.int .i64 8) ?_
   refine Sy.nil ?_
   exact meet (all_cons kR (all_cons kR (all_cons kR all_nil))) (λ_ h=>h)
 clear hc2
 obtain ⟨x,k⟩:=c2
 dsimp only at hv hc8 ⊢
 rw [hv]
 refine Sy.then_<|sC ?_
 refine sp rfl ?_
 refine Sy.make kR 5 #[bv x] (λg=>.slice (some ⟨g,0,none⟩) 1 1) kF (λg1=>?_)
 refine sp rfl ?_
 refine sA ?_
 refine sp rfl<|sp rfl<|sp rfl ?_
 refine Sy.callN kR 125 #[.int .u64 (n:Int),.int .i64 (k:Int)] kF _ (λw' _=>numberR_any w' n k hn hc8) (λu M hM=>?_)
 obtain ⟨A,m,cp,rfl,h2,h3,h4,h5⟩:=hM.byt
 rw [nb_len] at h2
 have hf:BytR (rdC (Base.of w) M) (.slice A m cp) (nb k n):=(hM.byt).le rdB_base
 refine Sy.appendM (pre:=[]) (r:=⟨.slice (some ⟨g1,0,none⟩) 1 1,[(g1,5,#[bv x])]⟩) (T:=M) kR 27 5 _ _ 1 1 Tryz.underlying27 Cu.info_u8 rfl rfl rfl rfl (by decide) _ _ rfl (BS.one g1 x) kR (byL_one (nb k n)) (byL_oneC (nb k n)) A m cp (by rw [byL_len,nb_len,h2]) h3 kR (λr=>BytR.from hf (λy hy=>List.mem_append_right [] (List.mem_append_right _ hy))) (by rw [byL_len]; show (1+m)*1≤_; omega) (by rw [byL_len]; show 1+m≤_; simp only [maxLen]; omega) (λr hr=>?_)
 have hr':BS r (x::nb k n):=hr
 refine sp rfl ?_
 refine sA ?_
 refine sp rfl<|sp rfl ?_
 refine sG<|Sy.ret ?_
 exact Sy.retGM r.bl rfl (.inl (show _=_ by kernel_rfl)) (λ_ h=>h.less (List.sublist_append_left _ _)) hr'.as
end Wr
end
section
namespace Wr
open Go.RowKit Sy
set_option maxRecDepth 100000
set_option maxHeartbeats 4000000
def gv1 (b:Byt) (at_ e:Nat):Nat×Nat×Nat:=((rawN b at_ e 1).1,(rawN b at_ e 1).2.1,said (rawN b at_ e 1).2.2)
def gv2 (b:Byt) (at_ e:Nat):Nat×Nat×Nat:=if (gv1 b at_ e).2.1=0∧253≤(gv1 b at_ e).2.2 then ((rawN b (gv1 b at_ e).1 (gv1 b at_ e).2.1 (wide (gv1 b at_ e).2.2)).1,(rawN b (gv1 b at_ e).1 (gv1 b at_ e).2.1 (wide (gv1 b at_ e).2.2)).2.1,said (rawN b (gv1 b at_ e).1 (gv1 b at_ e).2.1 (wide (gv1 b at_ e).2.2)).2.2) else gv1 b at_ e
def gvN (b:Byt) (at_ e most:Nat):Nat×Nat×Nat:=if (gv2 b at_ e).2.1≠0 then (at_,(gv2 b at_ e).2.1,0) else if (varB (gv2 b at_ e).2.2).length≠(gv2 b at_ e).1 - at_ then (at_,111,0) else if most<(gv2 b at_ e).2.2 then (at_,112,0) else gv2 b at_ e
theorem rawN_at (b:Byt) (at_ e n:Nat) (h:at_≤b.length):at_≤(rawN b at_ e n).1∧(rawN b at_ e n).1≤b.length:=by
 unfold rawN
 split
 ·exact ⟨Nat.le_refl _,h⟩
 ·split
  ·exact ⟨Nat.le_refl _,h⟩
  ·exact ⟨Nat.le_add_right _ _,by show at_+n≤_; omega⟩
theorem rawN_said (b:Byt) (at_ e n:Nat) (h:n≤8):said (rawN b at_ e n).2.2<18446744073709551616:=by
 have h1:=said_lt (rawN b at_ e n).2.2
 have h2:=rawN_len b at_ e n
 have h3:256 ^ (rawN b at_ e n).2.2.length≤256 ^ 8:=Nat.pow_le_pow_right (by decide) (by omega)
 exact Nat.lt_of_lt_of_le h1 h3
theorem gv1_lt (b:Byt) (at_ e:Nat):(gv1 b at_ e).2.2<256:=by
 have h1:=said_lt (rawN b at_ e 1).2.2
 have h2:=rawN_len b at_ e 1
 have h3:256 ^ (rawN b at_ e 1).2.2.length≤256 ^ 1:=Nat.pow_le_pow_right (by decide) (by omega)
 exact Nat.lt_of_lt_of_le h1 h3
theorem gv2_at (b:Byt) (at_ e:Nat) (h:at_≤b.length):at_≤(gv2 b at_ e).1∧(gv2 b at_ e).1≤b.length∧(gv2 b at_ e).2.2<18446744073709551616:=by
 have h1:=rawN_at b at_ e 1 h
 unfold gv2
 split
 ·have h2:=rawN_at b (gv1 b at_ e).1 (gv1 b at_ e).2.1 (wide (gv1 b at_ e).2.2) h1.2
  exact ⟨Nat.le_trans h1.1 h2.1,h2.2,rawN_said _ _ _ _ (wide_le _).1⟩
 ·exact ⟨h1.1,h1.2,Nat.lt_trans (gv1_lt b at_ e) (by decide)⟩
theorem getVarR_any (w:World) (sl:Value) (b:Byt) (at_ e most:Nat) (hat:at_≤b.length) (hm:most<18446744073709551616) (hl:b.length≤70368744177664) (hv:BytR (rdW w) sl b) :
  Calls Tryz.prog 136 #[rrV sl at_ e,.int .u64 (most:Int),.bool false] w (Gets w (.tuple #[rrV sl (gvN b at_ e most).1 (gvN b at_ e most).2.1,.int .u64 (((gvN b at_ e most).2.2:Nat):Int)])):=by
 have hv0:=hv
 obtain ⟨A,m,cp,rfl,h2,h3,h4,h5⟩:=hv
 have hlt:=gv1_lt b at_ e
 obtain ⟨f,hf⟩:∃ f,f=gv1 b at_ e:=⟨_,rfl⟩
 have hf1:f.1=(rawN b at_ e 1).1:=by rw [hf]; rfl
 have hf2:f.2.1=(rawN b at_ e 1).2.1:=by rw [hf]; rfl
 have hf3:f.2.2=said (rawN b at_ e 1).2.2:=by rw [hf]; rfl
 have hfa:=rawN_at b at_ e 1 hat
 obtain ⟨q1,q2,hq3⟩:=gv2_at b at_ e hat
 obtain ⟨q,hq⟩:∃ q,q=gv2 b at_ e:=⟨_,rfl⟩
 have hqf:q=if f.2.1=0∧253≤f.2.2 then ((rawN b f.1 f.2.1 (wide f.2.2)).1,(rawN b f.1 f.2.1 (wide f.2.2)).2.1,said (rawN b f.1 f.2.1 (wide f.2.2)).2.2) else f:=by rw [hq,hf]; rfl
 have hg:gvN b at_ e most=if q.2.1≠0 then (at_,q.2.1,0) else if (varB q.2.2).length≠q.1 - at_ then (at_,111,0) else if most<q.2.2 then (at_,112,0) else q:=by rw [hq]; rfl
 rw [← hq] at q1 q2 hq3
 rw [← hf] at hlt
 rw [← hf1] at hfa
 rw [hg]
 clear hq hf hg
 refine Sy.enter (args:=[rrV (.slice A m cp) at_ e,.int .u64 (most:Int),.bool false]) Tryz.func136 rfl kL ?_
 refine sC ?_
 refine sM 166 (rrC (.slice A m cp) at_ e) (λg3=>?_)
 refine sM 166 (rrC (.slice none 0 0) 0 0) (λg6=>?_)
 refine sP (.int .u64 0) ?_
 refine sA ?_
 refine sS (rrV (.slice A m cp) at_ e) (qk 0 0 3 rfl rfl Tryz.underlying166)<|sS (.tuple #[rrV (.slice A m cp) f.1 f.2.1,.int .u64 ((f.2.2:Nat):Int)]) (qg (λw' hw=>by rw [hf1,hf2,hf3]; exact getR_any w' (.slice A m cp) b at_ e 1 hat (by decide) hl (hv0.at hw)))<|sp rfl<|sp rfl<|sp rfl ?_
 refine sM 166 (rrC (.slice none 0 0) 0 0) (λg8=>?_)
 refine sw 2 rfl (rrC (.slice A m cp) f.1 f.2.1) (wA rfl)<|sp rfl ?_
 refine sA ?_
 refine sp rfl<|sp rfl ?_
 refine sG<|Sy.seq ?_
 refine cutC [(1,.int .u64 (most:Int)),(2,.bool false),(3,ptr g3),(6,ptr g6),(8,ptr g8),(10,.int .u64 ((q.2.2:Nat):Int))] [(g3,166,rrC (.slice A m cp) at_ e),(g6,166,rrC (.slice none 0 0) 0 0),(g8,166,rrC (.slice A m cp) q.1 q.2.1)] ?_ ?_
 ·refine sC ?_
  obtain ⟨b1,hb1⟩:∃ z:Bool,z=decide (f.2.1=0):=⟨_,rfl⟩
  refine sP (.pointer (some ⟨g8,2,none⟩))<|sS (.int .i64 ((f.2.1:Nat):Int)) (qc 2 2 rfl rfl Tryz.underlying28)<|sS (.bool b1) (Quiet.pure (exec_int .eql _ _ _ .i64 _ _ _ rfl rfl rfl (int_eql _ _ _ _ _ (by rw [hb1]; exact decide_eq_decide.2 (by omega)))))<|sp rfl ?_
  cases b1
  case' false =>
   have l1:¬ f.2.1=0:=of_decide_eq_false hb1.symm
   rw [if_neg (λh=>l1 h.1)] at hqf
   refine sN<|sN<|sP (.bool false) ?_
   refine sG<|sU<|Sy.skip ?_
   rw [hqf]
   exact meet (all_cons kR (all_cons kR (all_cons kR (all_cons kR (all_cons kR (all_cons kR all_nil)))))) (λ_ h=>h)
  have l1:f.2.1=0:=of_decide_eq_true hb1.symm
  obtain ⟨b2,hb2⟩:∃ z:Bool,z=decide (253≤f.2.2):=⟨_,rfl⟩
  refine sp rfl<|sS (.bool b2) (Quiet.pure (exec_int .geq _ _ _ .u64 _ _ _ rfl rfl rfl (int_geq _ _ _ _ _ (by rw [hb2]; exact decide_eq_decide.2 (by omega)))))<|sP (.bool b2) ?_
  refine sG ?_
  cases b2
  case' false =>
   have l2:¬ 253≤f.2.2:=of_decide_eq_false hb2.symm
   rw [if_neg (λh=>l2 h.2)] at hqf
   refine sU<|Sy.skip ?_
   rw [hqf]
   exact meet (all_cons kR (all_cons kR (all_cons kR (all_cons kR (all_cons kR (all_cons kR all_nil)))))) (λ_ h=>h)
  have l2:253≤f.2.2:=of_decide_eq_true hb2.symm
  rw [if_pos ⟨l1,l2⟩] at hqf
  have hqa:q.1=(rawN b f.1 f.2.1 (wide f.2.2)).1:=by rw [hqf]
  have hqb:q.2.1=(rawN b f.1 f.2.1 (wide f.2.2)).2.1:=by rw [hqf]
  have hqc:q.2.2=said (rawN b f.1 f.2.1 (wide f.2.2)).2.2:=by rw [hqf]
  clear hqf
  obtain ⟨k1,hk1⟩:∃ k,k=if f.2.2=254 then 4 else 2:=⟨_,rfl⟩
  obtain ⟨k2,hk2⟩:∃ k,k=if f.2.2=255 then 8 else k1:=⟨_,rfl⟩
  have hk:wide f.2.2=k2:=by
   rw [hk2,hk1]
   unfold wide
   repeat' split
   all_goals omega
  have hk8:=(wide_le f.2.2).1
  rw [hk] at hqa hqb hqc hk8
  clear hk
  refine sT<|sC ?_
  refine sP (.int .i64 2) ?_
  refine sG<|Sy.seq ?_
  refine cutC [(1,.int .u64 (most:Int)),(2,.bool false),(3,ptr g3),(6,ptr g6),(8,ptr g8),(9,.int .u64 ((f.2.2:Nat):Int)),(11,.int .i64 (k1:Int))] [(g3,166,rrC (.slice A m cp) at_ e),(g6,166,rrC (.slice none 0 0) 0 0),(g8,166,rrC (.slice A m cp) f.1 f.2.1)] ?_ ?_
  ·refine sC ?_
   obtain ⟨b3,hb3⟩:∃ z:Bool,z=decide (f.2.2=254):=⟨_,rfl⟩
   refine sp rfl<|sS (.bool b3) (Quiet.pure (exec_int .eql _ _ _ .u64 _ _ _ rfl rfl rfl (int_eql _ _ _ _ _ (by rw [hb3]; exact decide_eq_decide.2 (by omega))))) ?_
   refine sG ?_
   cases b3
   ·rw [if_neg (of_decide_eq_false hb3.symm)] at hk1
    subst hk1
    refine sU<|Sy.skip ?_
    exact meet (all_cons kR (all_cons kR (all_cons kR (all_cons kR (all_cons kR (all_cons kR (all_cons kR all_nil))))))) (λ_ h=>h)
   ·rw [if_pos (of_decide_eq_true hb3.symm)] at hk1
    subst hk1
    refine sT<|Sy.region ?_
    refine sP (.int .i64 4) ?_
    refine Sy.nil ?_
    exact meet (all_cons kR (all_cons kR (all_cons kR (all_cons kR (all_cons kR (all_cons kR (all_cons kR all_nil))))))) (λ_ h=>h)
  clear hk1
  refine Sy.then_<|Sy.seq ?_
  refine cutC [(1,.int .u64 (most:Int)),(2,.bool false),(3,ptr g3),(6,ptr g6),(8,ptr g8),(9,.int .u64 ((f.2.2:Nat):Int)),(11,.int .i64 (k2:Int))] [(g3,166,rrC (.slice A m cp) at_ e),(g6,166,rrC (.slice none 0 0) 0 0),(g8,166,rrC (.slice A m cp) f.1 f.2.1)] ?_ ?_
  ·refine sC ?_
   obtain ⟨b3,hb3⟩:∃ z:Bool,z=decide (f.2.2=255):=⟨_,rfl⟩
   refine sp rfl<|sS (.bool b3) (Quiet.pure (exec_int .eql _ _ _ .u64 _ _ _ rfl rfl rfl (int_eql _ _ _ _ _ (by rw [hb3]; exact decide_eq_decide.2 (by omega))))) ?_
   refine sG ?_
   cases b3
   ·rw [if_neg (of_decide_eq_false hb3.symm)] at hk2
    subst hk2
    refine sU<|Sy.skip ?_
    exact meet (all_cons kR (all_cons kR (all_cons kR (all_cons kR (all_cons kR (all_cons kR (all_cons kR all_nil))))))) (λ_ h=>h)
   ·rw [if_pos (of_decide_eq_true hb3.symm)] at hk2
    subst hk2
    refine sT<|Sy.region ?_
    refine sP (.int .i64 8) ?_
    refine Sy.nil ?_
    exact meet (all_cons kR (all_cons kR (all_cons kR (all_cons kR (all_cons kR (all_cons kR (all_cons kR all_nil))))))) (λ_ h=>h)
  clear hk2
  refine Sy.then_<|Sy.region ?_
  refine sS (rrV (.slice A m cp) f.1 f.2.1) (qk 2 0 3 rfl rfl Tryz.underlying166)<|sp rfl<|sS (.tuple #[rrV (.slice A m cp) q.1 q.2.1,.int .u64 ((q.2.2:Nat):Int)]) (qg (λw' hw=>by rw [hqa,hqb,hqc]; exact getR_any w' (.slice A m cp) b f.1 f.2.1 k2 hfa.2 hk8 hl (hv0.at hw)))<|sp rfl<|sp rfl<|sp rfl<|sw 2 rfl (rrC (.slice A m cp) q.1 q.2.1) (wA rfl)<|sp rfl ?_
  refine Sy.nil ?_
  exact meet (all_cons kR (all_cons kR (all_cons kR (all_cons kR (all_cons kR (all_cons kR all_nil)))))) (λ_ h=>h)
 clear hqf hf1 hf2 hf3 hfa hlt
 refine Sy.then_<|Sy.seq<|sC ?_
 obtain ⟨b1,hb1⟩:∃ z:Bool,z=decide (q.2.1≠0):=⟨_,rfl⟩
 refine sP (.pointer (some ⟨g8,2,none⟩))<|sS (.int .i64 ((q.2.1:Nat):Int)) (qc 2 2 rfl rfl Tryz.underlying28)<|sS (.bool b1) (Quiet.pure (exec_int .neq _ _ _ .i64 _ _ _ rfl rfl rfl (int_neq _ _ _ _ _ (by rw [hb1]; exact decide_eq_decide.2 (by omega))))) ?_
 refine sG ?_
 cases b1
 case' true =>
  rw [if_pos (of_decide_eq_true hb1.symm)]
  refine sT<|sC ?_
  refine sP (.pointer (some ⟨g8,2,none⟩))<|sS (.int .i64 ((q.2.1:Nat):Int)) (qc 2 2 rfl rfl Tryz.underlying28)<|sP (.pointer (some ⟨g3,2,none⟩))<|sw 0 rfl (rrC (.slice A m cp) at_ q.2.1) (wO 2 28 (.int .i64 ((q.2.1:Nat):Int)) rfl) ?_
  refine sA ?_
  refine sS (rrV (.slice A m cp) at_ q.2.1) (qk 0 0 3 rfl rfl Tryz.underlying166)<|sw 1 rfl (rrC (.slice A m cp) at_ q.2.1) (wA rfl)<|sP (.int .u64 0) ?_
  refine sG<|Sy.ret<|Sy.then_ret ?_
  exact Sy.ret2 rfl (.inl (Sy.Res.cell (ty':=166) g6 1 (rrC (.slice A m cp) at_ q.2.1) _ (by kernel_rfl) rfl Tryz.underlying166 rfl (by kernel_rfl) rfl)) (.inl (show _=_ by kernel_rfl))
 have l1:=of_decide_eq_false hb1.symm
 rw [if_neg l1]
 refine sU<|Sy.skip<|Sy.then_<|Sy.seq<|Sy.seq ?_
 obtain ⟨b3,hb3⟩:∃ z:Bool,z=decide ((varB q.2.2).length≠q.1 - at_):=⟨_,rfl⟩
 refine cutC [(1,.int .u64 (most:Int)),(2,.bool false),(3,ptr g3),(6,ptr g6),(8,ptr g8),(10,.int .u64 ((q.2.2:Nat):Int)),(50,.bool b3)] [(g3,166,rrC (.slice A m cp) at_ e),(g6,166,rrC (.slice none 0 0) 0 0),(g8,166,rrC (.slice A m cp) q.1 q.2.1)] ?_ ?_
 ·refine Sy.regionD (λj=>j == 1 || j == 4 || j == 6) kR ?_
  refine sa 0 rfl rfl<|sb 3 rfl (.pointer (some ⟨g8,1,none⟩))<|sb 5 rfl (.pointer (some ⟨g3,1,none⟩)) ?_
  refine Sy.anyOf [1,4,6] (by kernel_rfl) (by decide) (Sy.each3 ?_ ?_ ?_)
  ·refine Sy.oneCallN rfl (by kernel_rfl) 127 #[.int .u64 ((q.2.2:Nat):Int)] kF _ (λw' _=>varR_any w' q.2.2 hq3) (λu M hM=>?_)
   obtain ⟨A1,m1,c1,rfl,k2,_⟩:=hM.byt
   refine sb 2 rfl (.int .i64 (m1:Int)) ?_
   refine Sy.anyOf [4,6] (by kernel_rfl) (by decide) (Sy.each2 ?_ ?_)
   ·refine Sy.oneQuiet rfl (by kernel_rfl) (.int .i64 ((q.1:Nat):Int)) (qc 2 1 rfl rfl Tryz.underlying3) ?_
    refine Sy.anyOf [6] (by kernel_rfl) (by decide) (Sy.each1 ?_)
    ·refine Sy.oneQuiet rfl (by kernel_rfl) (.int .i64 (at_:Int)) (qc 0 1 rfl rfl Tryz.underlying3) ?_
     refine sv 7 rfl (.int .i64 ((q.1 - at_:Nat):Int)) (exec_int .sub _ _ _ .i64 _ _ _ rfl rfl rfl (int_sub _ _ _ _ _ ((wrap_i64 (by omega) (by omega)).trans (by omega)))) ?_
     refine sv 8 rfl (.bool b3) (exec_int .neq _ _ _ .i64 _ _ _ rfl rfl rfl (int_neq _ _ _ _ _ (by rw [hb3]; exact decide_eq_decide.2 (by omega)))) ?_
     refine sE ?_
     exact meet (all_cons kR (all_cons kR (all_cons kR (all_cons kR (all_cons kR (all_cons kR (all_cons kR all_nil))))))) (λ_ h=>h.less (List.sublist_append_left _ _))
   ·refine Sy.oneQuiet rfl (by kernel_rfl) (.int .i64 (at_:Int)) (qc 0 1 rfl rfl Tryz.underlying3) ?_
    refine Sy.anyOf [4] (by kernel_rfl) (by decide) (Sy.each1 ?_)
    ·refine Sy.oneQuiet rfl (by kernel_rfl) (.int .i64 ((q.1:Nat):Int)) (qc 2 1 rfl rfl Tryz.underlying3) ?_
     refine sv 7 rfl (.int .i64 ((q.1 - at_:Nat):Int)) (exec_int .sub _ _ _ .i64 _ _ _ rfl rfl rfl (int_sub _ _ _ _ _ ((wrap_i64 (by omega) (by omega)).trans (by omega)))) ?_
     refine sv 8 rfl (.bool b3) (exec_int .neq _ _ _ .i64 _ _ _ rfl rfl rfl (int_neq _ _ _ _ _ (by rw [hb3]; exact decide_eq_decide.2 (by omega)))) ?_
     refine sE ?_
     exact meet (all_cons kR (all_cons kR (all_cons kR (all_cons kR (all_cons kR (all_cons kR (all_cons kR all_nil))))))) (λ_ h=>h.less (List.sublist_append_left _ _))
  ·refine Sy.oneQuiet rfl (by kernel_rfl) (.int .i64 ((q.1:Nat):Int)) (qc 2 1 rfl rfl Tryz.underlying3) ?_
   refine Sy.anyOf [1,6] (by kernel_rfl) (by decide) (Sy.each2 ?_ ?_)
   ·refine Sy.oneCallN rfl (by kernel_rfl) 127 #[.int .u64 ((q.2.2:Nat):Int)] kF _ (λw' _=>varR_any w' q.2.2 hq3) (λu M hM=>?_)
    obtain ⟨A1,m1,c1,rfl,k2,_⟩:=hM.byt
    refine sb 2 rfl (.int .i64 (m1:Int)) ?_
    refine Sy.anyOf [6] (by kernel_rfl) (by decide) (Sy.each1 ?_)
    ·refine Sy.oneQuiet rfl (by kernel_rfl) (.int .i64 (at_:Int)) (qc 0 1 rfl rfl Tryz.underlying3) ?_
     refine sv 7 rfl (.int .i64 ((q.1 - at_:Nat):Int)) (exec_int .sub _ _ _ .i64 _ _ _ rfl rfl rfl (int_sub _ _ _ _ _ ((wrap_i64 (by omega) (by omega)).trans (by omega)))) ?_
     refine sv 8 rfl (.bool b3) (exec_int .neq _ _ _ .i64 _ _ _ rfl rfl rfl (int_neq _ _ _ _ _ (by rw [hb3]; exact decide_eq_decide.2 (by omega)))) ?_
     refine sE ?_
     exact meet (all_cons kR (all_cons kR (all_cons kR (all_cons kR (all_cons kR (all_cons kR (all_cons kR all_nil))))))) (λ_ h=>h.less (List.sublist_append_left _ _))
   ·refine Sy.oneQuiet rfl (by kernel_rfl) (.int .i64 (at_:Int)) (qc 0 1 rfl rfl Tryz.underlying3) ?_
    refine sv 7 rfl (.int .i64 ((q.1 - at_:Nat):Int)) (exec_int .sub _ _ _ .i64 _ _ _ rfl rfl rfl (int_sub _ _ _ _ _ ((wrap_i64 (by omega) (by omega)).trans (by omega)))) ?_
    refine Sy.anyOf [1] (by kernel_rfl) (by decide) (Sy.each1 ?_)
    ·refine Sy.oneCallN rfl (by kernel_rfl) 127 #[.int .u64 ((q.2.2:Nat):Int)] kF _ (λw' _=>varR_any w' q.2.2 hq3) (λu M hM=>?_)
     obtain ⟨A1,m1,c1,rfl,k2,_⟩:=hM.byt
     refine sb 2 rfl (.int .i64 (m1:Int)) ?_
     refine sv 8 rfl (.bool b3) (exec_int .neq _ _ _ .i64 _ _ _ rfl rfl rfl (int_neq _ _ _ _ _ (by rw [hb3]; exact decide_eq_decide.2 (by omega)))) ?_
     refine sE ?_
     exact meet (all_cons kR (all_cons kR (all_cons kR (all_cons kR (all_cons kR (all_cons kR (all_cons kR all_nil))))))) (λ_ h=>h.less (List.sublist_append_left _ _))
  ·refine Sy.oneQuiet rfl (by kernel_rfl) (.int .i64 (at_:Int)) (qc 0 1 rfl rfl Tryz.underlying3) ?_
   refine Sy.anyOf [1,4] (by kernel_rfl) (by decide) (Sy.each2 ?_ ?_)
   ·refine Sy.oneCallN rfl (by kernel_rfl) 127 #[.int .u64 ((q.2.2:Nat):Int)] kF _ (λw' _=>varR_any w' q.2.2 hq3) (λu M hM=>?_)
    obtain ⟨A1,m1,c1,rfl,k2,_⟩:=hM.byt
    refine sb 2 rfl (.int .i64 (m1:Int)) ?_
    refine Sy.anyOf [4] (by kernel_rfl) (by decide) (Sy.each1 ?_)
    ·refine Sy.oneQuiet rfl (by kernel_rfl) (.int .i64 ((q.1:Nat):Int)) (qc 2 1 rfl rfl Tryz.underlying3) ?_
     refine sv 7 rfl (.int .i64 ((q.1 - at_:Nat):Int)) (exec_int .sub _ _ _ .i64 _ _ _ rfl rfl rfl (int_sub _ _ _ _ _ ((wrap_i64 (by omega) (by omega)).trans (by omega)))) ?_
     refine sv 8 rfl (.bool b3) (exec_int .neq _ _ _ .i64 _ _ _ rfl rfl rfl (int_neq _ _ _ _ _ (by rw [hb3]; exact decide_eq_decide.2 (by omega)))) ?_
     refine sE ?_
     exact meet (all_cons kR (all_cons kR (all_cons kR (all_cons kR (all_cons kR (all_cons kR (all_cons kR all_nil))))))) (λ_ h=>h.less (List.sublist_append_left _ _))
   ·refine Sy.oneQuiet rfl (by kernel_rfl) (.int .i64 ((q.1:Nat):Int)) (qc 2 1 rfl rfl Tryz.underlying3) ?_
    refine sv 7 rfl (.int .i64 ((q.1 - at_:Nat):Int)) (exec_int .sub _ _ _ .i64 _ _ _ rfl rfl rfl (int_sub _ _ _ _ _ ((wrap_i64 (by omega) (by omega)).trans (by omega)))) ?_
    refine Sy.anyOf [1] (by kernel_rfl) (by decide) (Sy.each1 ?_)
    ·refine Sy.oneCallN rfl (by kernel_rfl) 127 #[.int .u64 ((q.2.2:Nat):Int)] kF _ (λw' _=>varR_any w' q.2.2 hq3) (λu M hM=>?_)
     obtain ⟨A1,m1,c1,rfl,k2,_⟩:=hM.byt
     refine sb 2 rfl (.int .i64 (m1:Int)) ?_
     refine sv 8 rfl (.bool b3) (exec_int .neq _ _ _ .i64 _ _ _ rfl rfl rfl (int_neq _ _ _ _ _ (by rw [hb3]; exact decide_eq_decide.2 (by omega)))) ?_
     refine sE ?_
     exact meet (all_cons kR (all_cons kR (all_cons kR (all_cons kR (all_cons kR (all_cons kR (all_cons kR all_nil))))))) (λ_ h=>h.less (List.sublist_append_left _ _))
 refine Sy.then_ ?_
 cases b3
 case' true =>
  rw [if_pos (of_decide_eq_true hb3.symm)]
  refine sT<|sC ?_
  refine sP (.pointer (some ⟨g3,2,none⟩))<|sw 0 rfl (rrC (.slice A m cp) at_ 111) (wO 2 28 (.int .i64 111) rfl) ?_
  refine sA ?_
  refine sS (rrV (.slice A m cp) at_ 111) (qk 0 0 3 rfl rfl Tryz.underlying166)<|sw 1 rfl (rrC (.slice A m cp) at_ 111) (wA rfl)<|sP (.int .u64 0) ?_
  refine sG<|Sy.ret<|Sy.then_ret ?_
  exact Sy.ret2 rfl (.inl (Sy.Res.cell (ty':=166) g6 1 (rrC (.slice A m cp) at_ 111) _ (by kernel_rfl) rfl Tryz.underlying166 rfl (by kernel_rfl) rfl)) (.inl (show _=_ by kernel_rfl))
 rw [if_neg (of_decide_eq_false hb3.symm)]
 refine sU<|Sy.skip<|Sy.then_<|Sy.seq<|sC ?_
 obtain ⟨b4,hb4⟩:∃ z:Bool,z=decide (most<q.2.2):=⟨_,rfl⟩
 refine sp rfl<|sp rfl<|sp rfl<|sp rfl<|sS (.bool b4) (Quiet.pure (exec_int .gtr _ _ _ .u64 _ _ _ rfl rfl rfl (int_gtr _ _ _ _ _ (by rw [hb4]; exact decide_eq_decide.2 (by omega)))))<|sP (.bool b4) ?_
 refine sG ?_
 cases b4
 case' true =>
  rw [if_pos (of_decide_eq_true hb4.symm)]
  refine sT<|sC ?_
  refine sP (.pointer (some ⟨g3,2,none⟩))<|sw 0 rfl (rrC (.slice A m cp) at_ 112) (wO 2 28 (.int .i64 112) rfl) ?_
  refine sA ?_
  refine sS (rrV (.slice A m cp) at_ 112) (qk 0 0 3 rfl rfl Tryz.underlying166)<|sw 1 rfl (rrC (.slice A m cp) at_ 112) (wA rfl)<|sP (.int .u64 0) ?_
  refine sG<|Sy.ret<|Sy.then_ret ?_
  exact Sy.ret2 rfl (.inl (Sy.Res.cell (ty':=166) g6 1 (rrC (.slice A m cp) at_ 112) _ (by kernel_rfl) rfl Tryz.underlying166 rfl (by kernel_rfl) rfl)) (.inl (show _=_ by kernel_rfl))
 rw [if_neg (of_decide_eq_false hb4.symm)]
 refine sU<|Sy.skip<|sB ?_
 refine sS (rrV (.slice A m cp) q.1 q.2.1) (qk 2 0 3 rfl rfl Tryz.underlying166)<|sp rfl<|sw 1 rfl (rrC (.slice A m cp) q.1 q.2.1) (wA rfl)<|sp rfl ?_
 refine sG<|Sy.ret ?_
 exact Sy.ret2 rfl (.inl (Sy.Res.cell (ty':=166) g6 1 (rrC (.slice A m cp) q.1 q.2.1) _ (by kernel_rfl) rfl Tryz.underlying166 rfl (by kernel_rfl) rfl)) (.inl (show _=_ by kernel_rfl))
end Wr
end
section
namespace Wr
open Go.RowKit Sy
set_option maxRecDepth 100000
set_option maxHeartbeats 4000000
theorem raw_fx (b:Byt) (at_ k:Nat) (h:at_≤b.length):(rawN b at_ 0 k).1=at_+(fxN (b.drop at_) k).2.1∧(rawN b at_ 0 k).2.1=(fxN (b.drop at_) k).2.2∧said (rawN b at_ 0 k).2.2=(fxN (b.drop at_) k).1:=by
 unfold rawN fxN
 rw [if_neg (λh=>h rfl),List.length_drop]
 by_cases h:b.length - at_<k
 ·rw [if_pos h,if_pos h]; exact ⟨rfl,rfl,rfl⟩
 ·rw [if_neg h,if_neg h]; exact ⟨rfl,rfl,rfl⟩
theorem fx_len {b:Byt} {k:Nat} (h:(fxN b k).2.2=0):(fxN b k).2.1=k:=by
 unfold fxN at h ⊢
 split at h
 ·cases h
 ·rename_i hl; rw [if_neg hl]
theorem fx_zero {b:Byt} {k:Nat} (h:(fxN b k).2.2≠0):(fxN b k).1=0∧(fxN b k).2.1=0:=by
 unfold fxN at h ⊢
 split at h
 ·rename_i hl; rw [if_pos hl]; exact ⟨rfl,rfl⟩
 ·exact (h rfl).elim
theorem gvN_is (b:Byt) (at_ most:Nat) (h:at_≤b.length):gvN b at_ 0 most=(at_+(vrN (b.drop at_) most).2.1,(vrN (b.drop at_) most).2.2,(vrN (b.drop at_) most).1):=by
 have r1:=raw_fx b at_ 1 h
 cases hl:b.drop at_ with
 | nil =>
  rw [hl] at r1
  have e1:gv1 b at_ 0=(at_,110,0):=by
   unfold gv1
   rw [r1.1,r1.2.1,r1.2.2]; rfl
  have e2:gv2 b at_ 0=(at_,110,0):=by unfold gv2; rw [e1]; exact if_neg (λh=>by cases h.1)
  unfold gvN
  rw [e2,if_pos (show (110:Nat)≠0 by decide)]
  rfl
 | cons u l =>
  have hu:=u.toNat_lt
  rw [hl,fx_one (rfl:u::l=u::l)] at r1
  have e1:gv1 b at_ 0=(at_+1,0,u.toNat):=by
   unfold gv1
   rw [r1.1,r1.2.1,r1.2.2]
  by_cases hc:253≤u.toNat
  ·have hat1:at_+1≤b.length:=by
    have:=congrArg List.length hl
    rw [List.length_drop,List.length_cons] at this; omega
   have hd:b.drop (at_+1)=l:=by rw [← List.drop_drop,hl]; rfl
   have r2:=raw_fx b (at_+1) (wide u.toNat) hat1
   rw [hd] at r2
   have hg:vrG (u::l)=if (fxN l (wide u.toNat)).2.2=0 then (if (fxN l (wide u.toNat)).1<least u.toNat then (0,0,111) else ((fxN l (wide u.toNat)).1,1+wide u.toNat,0)) else (0,0,(fxN l (wide u.toNat)).2.2):=by
    unfold vrG
    rw [fx_one (rfl:u::l=u::l),if_pos (show 253≤(u.toNat,1,0).1 from hc)]
    rfl
   have hfl:=fxN_fit l (wide u.toNat) (wide_le _).1
   have hfn:(fxN l (wide u.toNat)).1<256 ^ wide u.toNat:=by
    unfold fxN
    split
    ·exact Nat.pow_pos (by decide)
    ·have h1:=said_lt (l.take (wide u.toNat))
     have h2:256 ^ (l.take (wide u.toNat)).length≤256 ^ wide u.toNat:=Nat.pow_le_pow_right (by decide) (by rw [List.length_take]; omega)
     exact Nat.lt_of_lt_of_le h1 h2
   have hz:=@fx_zero l (wide u.toNat)
   have hln:=@fx_len l (wide u.toNat)
   have hw:=varB_wide hu hc hfn
   have e2:gv2 b at_ 0=(at_+1+(fxN l (wide u.toNat)).2.1,(fxN l (wide u.toNat)).2.2,(fxN l (wide u.toNat)).1):=by
    unfold gv2
    rw [e1,if_pos ⟨rfl,hc⟩,r2.1,r2.2.1,r2.2.2]
   obtain ⟨f,hf⟩:∃ f,f=fxN l (wide u.toNat):=⟨_,rfl⟩
   obtain ⟨wd,hwd⟩:∃ x,x=wide u.toNat:=⟨_,rfl⟩
   rw [← hwd] at hf
   rw [← hwd, ← hf] at e2 hg hz hln hw
   unfold gvN vrN
   rw [e2,hg]
   clear hg e2 r2 e1 r1
   by_cases h1:f.2.2=0
   ·rw [if_pos h1,if_neg (λh=>h h1)]
    have hk:=hln h1
    by_cases h2:f.1<least u.toNat
    ·rw [if_pos h2]
     dsimp only
     rw [if_pos (show (varB f.1).length≠at_+1+f.2.1 - at_ by intro e; exact absurd (hw.1 (by omega)) (by omega)),if_neg (show ¬ ((111:Nat)=0∧most<0) from λh=>by cases h.1)]
     rfl
    ·rw [if_neg h2]
     dsimp only
     rw [if_neg (show ¬ (varB f.1).length≠at_+1+f.2.1 - at_ by intro e; exact e (by have:=hw.2 (by omega); omega))]
     by_cases h3:most<f.1
     ·rw [if_pos h3,if_pos (show (0:Nat)=0∧most<f.1 from ⟨rfl,h3⟩)]; rfl
     ·rw [if_neg h3,if_neg (show ¬ ((0:Nat)=0∧most<f.1) from λh=>h3 h.2)]
      refine Prod.ext ?_ (Prod.ext h1 rfl)
      show at_+1+f.2.1=at_+(1+wd); omega
   ·rw [if_neg h1,if_pos h1,if_neg (λh=>h1 h.1)]
    rfl
  ·have e2:gv2 b at_ 0=(at_+1,0,u.toNat):=by unfold gv2; rw [e1]; exact if_neg (λh=>hc h.2)
   have hg:vrG (u::l)=(u.toNat,1,0):=by
    unfold vrG
    rw [fx_one (rfl:u::l=u::l),if_neg (show ¬ 253≤(u.toNat,1,0).1 from hc)]
   have hv:(varB u.toNat).length=1:=by unfold varB; rw [if_pos (by omega)]; rfl
   unfold gvN vrN
   rw [e2,hg,if_neg (λh=>h rfl),if_neg (show ¬ (varB u.toNat).length≠at_+1 - at_ by intro e; exact e (by omega))]
   by_cases h3:most<u.toNat
   ·rw [if_pos h3,if_pos ⟨rfl,h3⟩]; rfl
   ·rw [if_neg h3,if_neg (λh=>h3 h.2)]
theorem gvN_bad (b:Byt) (at_ e most:Nat) (he:e≠0):gvN b at_ e most=(at_,e,0):=by
 have e0:rawN b at_ e 1=(at_,e,[]):=if_pos he
 have e1:gv1 b at_ e=(at_,e,0):=by unfold gv1; rw [e0]; rfl
 have e2:gv2 b at_ e=(at_,e,0):=by unfold gv2; rw [e1]; exact if_neg (λh=>he h.1)
 unfold gvN
 rw [e2,if_pos he]
theorem gvN_after (b:Byt) (at_ e most:Nat) (h:at_≤b.length) (he:e≤200):After (varP most) ⟨b.drop at_,e⟩ (gvN b at_ e most).2.2 ⟨b.drop (gvN b at_ e most).1,(gvN b at_ e most).2.1⟩∧(gvN b at_ e most).1≤b.length∧(gvN b at_ e most).2.1≤200∧(gvN b at_ e most).2.2≤most:=by
 by_cases h0:e=0
 ·subst h0
  rw [gvN_is b at_ most h]
  have hy:=@vr_yes (b.drop at_) most
  have hn:=@vr_no (b.drop at_) most
  have hf:=vrN_fit (b.drop at_) most
  obtain ⟨f,hff⟩:∃ f,f=vrN (b.drop at_) most:=⟨_,rfl⟩
  have hz:f.2.2≠0→f.1=0∧f.2.1=0:=by
   rw [hff]
   have q:=vrG_fit (b.drop at_)
   unfold vrN
   intro h1
   split at h1
   ·rename_i hc; rw [if_pos hc]; exact ⟨rfl,rfl⟩
   ·rename_i hc
    rw [if_neg hc]
    refine ⟨vrG_zero h1,?_⟩
    have e3:=gvN_is b at_ most h
    unfold vrG at h1 ⊢
    split at h1
    ·rename_i h2
     rw [if_pos h2]
     unfold lgN at h1 ⊢
     split at h1
     ·rename_i h3
      split at h1
      ·rename_i h4; rw [if_pos h3,if_pos h4]
      ·exact (h1 rfl).elim
     ·rename_i h3; rw [if_neg h3]
    ·rename_i h2; rw [if_neg h2]; exact (fx_zero h1).2
  rw [← hff] at hy hn hf ⊢
  dsimp only
  by_cases h1:f.2.2=0
  ·obtain ⟨q1,q2,q3⟩:=hy h1
   rw [List.length_drop] at q2
   refine ⟨⟨λh=>(h rfl).elim,λy r _ hp=>?_,λ_ hp=>?_⟩,by omega,by omega,q3⟩
   ·rw [q1] at hp
    cases hp
    refine ⟨rfl,?_⟩
    rw [List.drop_drop,h1]
   ·rw [q1] at hp; cases hp
  ·have q1:=hn h1
   obtain ⟨z1,z2⟩:=hz h1
   refine ⟨⟨λh=>(h rfl).elim,λy r _ hp=>?_,λ_ _=>h1⟩,by omega,hf.2.2,by omega⟩
   rw [q1] at hp; cases hp
 ·rw [gvN_bad b at_ e most h0]
  exact ⟨⟨λ_=>h0,λ_ _ h1 _=>(h0 h1).elim,λh1 _=>(h0 h1).elim⟩,h,he,Nat.zero_le _⟩
def padN (x:Byt) (n:Nat):Byt:=if x.length<n then List.replicate n 0 else x
theorem padN_len (b:Byt) (at_ e n:Nat):(padN (rawN b at_ e n).2.2 n).length=n:=by
 have:=rawN_len b at_ e n
 unfold padN
 split
 ·exact List.length_replicate
 ·omega
theorem rawN_after (b:Byt) (at_ e n:Nat) (h:at_≤b.length) (he:e≤200):After (takeP n) ⟨b.drop at_,e⟩ (padN (rawN b at_ e n).2.2 n) ⟨b.drop (rawN b at_ e n).1,(rawN b at_ e n).2.1⟩∧(rawN b at_ e n).1≤b.length∧(rawN b at_ e n).2.1≤200:=by
 unfold rawN takeP
 by_cases h0:e≠0
 ·rw [if_pos h0]
  exact ⟨⟨λ_=>h0,λ_ _ h1 _=>(h0 h1).elim,λh1 _=>(h0 h1).elim⟩,h,he⟩
 ·rw [if_neg h0]
  obtain rfl:e=0:=Decidable.of_not_not h0
  by_cases h1:b.length - at_<n
  ·rw [if_pos h1]
   refine ⟨⟨λ_=>(show (110:Nat)≠0 by decide),λy r _ hp=>?_,λ_ _=>(show (110:Nat)≠0 by decide)⟩,h,by show (110:Nat)≤200; omega⟩
   rw [if_neg (by show ¬ n≤(b.drop at_).length; rw [List.length_drop]; omega)] at hp
   cases hp
  ·rw [if_neg h1]
   refine ⟨⟨λh=>(h rfl).elim,λy r _ hp=>?_,λ_ hp=>?_⟩,by show at_+n≤_; omega,Nat.zero_le _⟩
   ·rw [if_pos (by show n≤(b.drop at_).length; rw [List.length_drop]; omega)] at hp
    cases hp
    refine ⟨?_,by rw [List.drop_drop]⟩
    unfold padN
    rw [if_neg (by rw [List.length_take,List.length_drop]; omega)]
   ·rw [if_pos (by show n≤(b.drop at_).length; rw [List.length_drop]; omega)] at hp
    cases hp
abbrev RB (gr:Nat) (sl:Value) (at_ e:Nat) (R:Blocks):Blocks:=(gr,168,rrC sl at_ e)::R
def Rfd {α:Type} (p:Ps α) (val:α→Value→Blocks→Prop) (gr:Nat) (sl:Value) (b:Byt) (R:Blocks) (at_ e:Nat) (v:Value) (M:Blocks):Prop :=
 ∃ x a2 e2 N,After p ⟨b.drop at_,e⟩ x ⟨b.drop a2,e2⟩∧val x v N∧a2≤b.length∧e2≤200∧M=RB gr sl a2 e2 (R++N)
theorem zeros_bs (g n:Nat) (hn:n≤70368744177664):BS ⟨.slice (some ⟨g,0,none⟩) n n,[(g,5,(flat (λ_=>[Value.int .u8 0]) n).toArray)]⟩ (List.replicate n 0):=by
 have e:(byL (List.replicate n (0:UInt8))).flatten=flat (λ_=>[Value.int .u8 0]) n:=by
  rw [byL_flat,List.map_replicate]
  induction n with
  | zero=>rfl
  | succ n ih=>rw [List.replicate_succ',flat_succ,ih (by omega)]; rfl
 refine ⟨byL_one _,byL_oneC _,.inr ⟨g,n,[],?_,?_,?_,?_⟩⟩
 ·rw [byL_len,List.length_replicate,e,List.append_nil]
 ·rw [byL_len,List.length_replicate]; exact Nat.zero_add _
 ·rw [byL_len,List.length_replicate]; exact Nat.le_refl _
 ·simp only [maxLen]; omega
theorem rawM_any (w0:Base) (gr:Nat) (sl:Value) (b:Byt) (at_ e n:Nat) (R:Blocks) (hat:at_≤b.length) (he:e≤200) (hn:n≤1000000) (hl:b.length≤70368744177664) (hv:BytR (rdW w0.world) sl b) (w:World) (hw:St w0 w (RB gr sl at_ e R)) :
  Calls Tryz.prog 90 #[ptr gr,.int .i64 (n:Int)] w (Turns w0 (Rfd (takeP n) (λx v N=>ByN x v N∧x.length=n) gr sl b R at_ e)):=by
 obtain ⟨q1,q2,q3⟩:=rawN_after b at_ e n hat he
 have q4:=padN_len b at_ e n
 have hv0:=hv
 obtain ⟨A,m,cp,rfl,h2,h3,h4,h5⟩:=hv
 obtain ⟨f,hf⟩:∃ f,f=rawN b at_ e n:=⟨_,rfl⟩
 rw [← hf] at q1 q2 q3 q4
 refine Sy.enterT (args:=[ptr gr,.int .i64 (n:Int)]) hw Tryz.func90 rfl kL ?_
 refine sC ?_
 refine sP (.slice none 0 0) ?_
 refine sA ?_
 refine sp rfl<|sp rfl<|sP (.pointer (some ⟨gr,0,none⟩))<|sS (rrV (.slice A m cp) at_ e) (qk 0 0 3 rfl rfl Tryz.underlying166)<|sp rfl ?_
 refine Sy.callN kR 155 #[rrV (.slice A m cp) at_ e,.int .i64 (n:Int)] kF _ (λw' hw=>rawR_any w' (.slice A m cp) b at_ e n hat (by omega) hl (hv0.le (λg o u hu=>rdC_world (w0:=w0.inn) (R:=[]) hw (λ_ h=>by cases h) g o u (.inl hu)))) (λu M hM=>?_)
 rw [← hf] at hM
 obtain ⟨u,rfl,hu⟩:=hM
 have hub:=hu.byt
 obtain ⟨A2,n2,c2,rfl,k2,k3,k4,k5⟩:=hub
 refine sp rfl<|sp rfl<|sp rfl ?_
 refine sM 166 (rrC (.slice none 0 0) 0 0) (λg5=>?_)
 refine Sy.movT (pre:=[(gr,168,rrC (.slice A m cp) at_ e)]) (T:=R++M) ?_
 refine sw 1 rfl (rrC (.slice A m cp) f.1 f.2.1) (wA rfl)<|sp rfl ?_
 refine sA ?_
 refine sp rfl<|sS (rrV (.slice A m cp) f.1 f.2.1) (qk 1 0 3 rfl rfl Tryz.underlying166)<|sp rfl<|sP (.pointer (some ⟨gr,0,none⟩))<|sw 0 rfl (rrC (.slice A m cp) f.1 f.2.1) (wA rfl) ?_
 refine sG<|Sy.seq<|sC ?_
 obtain ⟨b1,hb1⟩:∃ z:Bool,z=decide (n2<n):=⟨_,rfl⟩
 refine sp rfl<|sP (.int .i64 (n2:Int))<|sp rfl<|sS (.bool b1) (Quiet.pure (exec_int .lss _ _ _ .i64 _ _ _ rfl rfl rfl (int_lss _ _ _ _ _ (by rw [hb1]; exact decide_eq_decide.2 (by omega))))) ?_
 refine sG ?_
 cases b1
 case' false =>
  have l1:¬ n2<n:=of_decide_eq_false hb1.symm
  have ep:padN f.2.2 n=f.2.2:=if_neg (by omega)
  rw [ep] at q1 q4
  refine sU<|Sy.skip<|sB ?_
  refine sp rfl<|sp rfl ?_
  refine sG<|Sy.ret ?_
  exact Sy.retT1 (RB gr (.slice A m cp) f.1 f.2.1 (R++M)) rfl (.inl (show _=_ by kernel_rfl)) (λ_ h=>keep1 h) ⟨_,_,_,M,q1,⟨hu,q4⟩,q2,q3,rfl⟩
 have l1:n2<n:=of_decide_eq_true hb1.symm
 have ep:padN f.2.2 n=List.replicate n 0:=if_pos (by omega)
 rw [ep] at q1 q4
 refine sT<|Sy.region ?_
 refine sp rfl ?_
 refine Sy.make kR 5 (flat (λ_=>[Value.int .u8 0]) n).toArray (λg=>.slice (some ⟨g,0,none⟩) n n) (Sy.Makes.slice 27 5 _ _ 1 1 _ _ .i64 .i64 n _ rfl rfl rfl Tryz.underlying27 Cu.info_u8 rfl rfl (by decide) rfl rfl rfl (by omega) (by omega)) (λgz=>?_)
 refine sp rfl ?_
 refine Sy.nil<|sB ?_
 refine sp rfl<|sp rfl ?_
 refine sG<|Sy.ret ?_
 exact Sy.retT1 (RB gr (.slice A m cp) f.1 f.2.1 (R++[(gz,5,(flat (λ_=>[Value.int .u8 0]) n).toArray)])) rfl (.inl (show _=_ by kernel_rfl)) (λ_ h=>h.less ((((List.sublist_append_left R M).append (List.Sublist.refl [(gz,5,(flat (λ_=>[Value.int .u8 0]) n).toArray)])).cons (g5,166,rrC (.slice A m cp) f.1 f.2.1)).cons_cons (gr,168,rrC (.slice A m cp) f.1 f.2.1))) ⟨_,_,_,_,q1,⟨(zeros_bs gz n (by omega)).as,q4⟩,q2,q3,rfl⟩
theorem numM_any (w0:Base) (gr:Nat) (sl:Value) (b:Byt) (at_ e k:Nat) (R:Blocks) (hat:at_≤b.length) (he:e≤200) (hk:k≤8) (hl:b.length≤70368744177664) (hv:BytR (rdW w0.world) sl b) (w:World) (hw:St w0 w (RB gr sl at_ e R)) :
  Calls Tryz.prog 73 #[ptr gr,.int .i64 (k:Int)] w (Turns w0 (Rfd (numP k) (λx v N=>v=.int .u64 (x:Int)∧x<18446744073709551616∧N=[]) gr sl b R at_ e)):=by
 refine Sy.enterT (args:=[ptr gr,.int .i64 (k:Int)]) hw Tryz.func73 rfl kL ?_
 refine sC ?_
 refine sP (.int .u64 0) ?_
 refine sA ?_
 refine sp rfl<|sp rfl ?_
 refine Sy.callT (λw hw=>rawM_any w0.inn gr sl b at_ e k R hat he (by omega) hl hv w hw) (λu M hM=>?_)
 obtain ⟨x,a2,e2,N,q1,⟨q2,q3⟩,q4,q5,rfl⟩:=hM
 have hs:said x<18446744073709551616:=by
  have h1:=said_lt x
  have h3:256 ^ x.length≤256 ^ 8:=Nat.pow_le_pow_right (by decide) (by omega)
  exact Nat.lt_of_lt_of_le h1 h3
 refine sS (.int .u64 ((said x:Nat):Int)) (qg (λw' hw=>saidR_any w' u x (by omega) (q2.byt.le (λg o v h=>rdC_world (w0:=w0.inn) hw (R:=N) (λb hb=>List.mem_cons_of_mem _ (List.mem_append_right _ hb)) g o v (.inr h)))))<|sp rfl ?_
 refine sG<|Sy.ret ?_
 exact Sy.retT1 (RB gr sl a2 e2 (R++[])) rfl (.inl (show _=_ by kernel_rfl)) (λ_ h=>h.less (((List.Sublist.refl R).append (List.nil_sublist N)).cons_cons _)) ⟨_,_,_,[],q1.bind (After.ret (said x) _),⟨rfl,hs,rfl⟩,q4,q5,rfl⟩
theorem manyM_any (w0:Base) (gr:Nat) (sl:Value) (b:Byt) (at_ e most:Nat) (R:Blocks) (hat:at_≤b.length) (he:e≤200) (hm:most≤1000000) (hl:b.length≤70368744177664) (hv:BytR (rdW w0.world) sl b) (w:World) (hw:St w0 w (RB gr sl at_ e R)) :
  Calls Tryz.prog 74 #[ptr gr,.int .i64 (most:Int)] w (Turns w0 (Rfd (varP most) (λx v N=>v=.int .i64 (x:Int)∧x≤most∧N=[]) gr sl b R at_ e)):=by
 obtain ⟨q1,q2,q3,q4⟩:=gvN_after b at_ e most hat he
 have hv0:=hv
 obtain ⟨A,m,cp,rfl,h2,h3,h4,h5⟩:=hv
 obtain ⟨f,hf⟩:∃ f,f=gvN b at_ e most:=⟨_,rfl⟩
 rw [← hf] at q1 q2 q3 q4
 refine Sy.enterT (args:=[ptr gr,.int .i64 (most:Int)]) hw Tryz.func74 rfl kL ?_
 refine sC ?_
 refine sP (.int .i64 0) ?_
 refine sA ?_
 refine sp rfl<|sp rfl<|sP (.pointer (some ⟨gr,0,none⟩))<|sS (rrV (.slice A m cp) at_ e) (qk 0 0 3 rfl rfl Tryz.underlying166)<|sp rfl<|sS (.int .u64 (most:Int)) (Quiet.pure (λw=>conv_i6 w _ _ _ most (by omega) rfl rfl))<|sS (.tuple #[rrV (.slice A m cp) f.1 f.2.1,.int .u64 ((f.2.2:Nat):Int)]) (qg (λw' hw=>by rw [hf]; exact getVarR_any w' (.slice A m cp) b at_ e most hat (by omega) hl (hv0.le (λg o u hu=>rdC_world (w0:=w0.inn) (R:=[]) hw (λ_ h=>by cases h) g o u (.inl hu)))))<|sp rfl<|sp rfl<|sp rfl ?_
 refine sM 166 (rrC (.slice none 0 0) 0 0) (λg5=>?_)
 refine Sy.movT (pre:=[(gr,168,rrC (.slice A m cp) at_ e)]) (T:=R) ?_
 refine sw 1 rfl (rrC (.slice A m cp) f.1 f.2.1) (wA rfl)<|sp rfl ?_
 refine sA ?_
 refine sp rfl<|sS (rrV (.slice A m cp) f.1 f.2.1) (qk 1 0 3 rfl rfl Tryz.underlying166)<|sp rfl<|sP (.pointer (some ⟨gr,0,none⟩))<|sw 0 rfl (rrC (.slice A m cp) f.1 f.2.1) (wA rfl) ?_
 refine sA ?_
 refine sp rfl<|sS (.int .i64 ((f.2.2:Nat):Int)) (Quiet.pure (λw=>conv_6i w _ _ _ f.2.2 (by omega) rfl rfl))<|sp rfl ?_
 refine sG<|Sy.ret ?_
 exact Sy.retT1 (RB gr (.slice A m cp) f.1 f.2.1 (R++[])) rfl (.inl (show _=_ by kernel_rfl)) (λ_ h=>by rw [List.append_nil]; exact keep1 h) ⟨_,_,_,[],q1,⟨rfl,q4,rfl⟩,q2,q3,rfl⟩
theorem okM_any (w0:Base) (gr:Nat) (sl:Value) (at_ e:Nat) {L:Blocks} (hL:(gr,168,rrC sl at_ e)∈L) (w:World) (hw:St w0 w L) :
  Calls Tryz.prog 75 #[ptr gr] w (Gets w (.bool (decide (e=0)))):=by
 have hb:=(hw.blk _ _ _ hL).2
 have hlt:=hb.lt
 obtain ⟨b1,hb1⟩:∃ z:Bool,z=decide (e=0):=⟨_,rfl⟩
 rw [← hb1]
 refine Sy.enter (args:=[ptr gr]) Tryz.func75 rfl kL ?_
 refine sC ?_
 refine sP (.bool false) ?_
 refine sA ?_
 refine sp rfl<|sp rfl<|sP (.pointer (some ⟨gr,0,none⟩))<|sP (.pointer (some ⟨gr,2,none⟩))<|sS (.int .i64 (e:Int)) (Quiet.thereOne gr 2 28 _ _ rfl kR hlt _ (hb.cell 2) Tryz.underlying28 rfl)<|sS (.bool b1) (Quiet.pure (exec_int .eql _ _ _ .i64 _ _ _ rfl rfl rfl (int_eql _ _ _ _ _ (by rw [hb1]; exact decide_eq_decide.2 (by omega)))))<|sp rfl ?_
 refine sG<|Sy.ret ?_
 exact rV (.bool b1) rfl
end Wr
end
section
namespace Wr
open Go.RowKit Sy
set_option maxRecDepth 100000
set_option maxHeartbeats 4000000
theorem wM {P:Program} {F:Slots} {o:Oper} {g:Nat} {t:TypeId} (ty:TypeId) (A z v Z:List Value) (k f:Nat) (x y:Operand) (ho:o.op=.store ty x y) (hx:evF F x=.pointer (some ⟨g,f,none⟩)) (hy:evF F y=.agg v.toArray) (hi:(P.info? ty).map (·.size)=some k) (hA:A.length=f) (hz:z.length=k) (hv:v.length=k) (h1:∀ u∈v,u.oneCell'=true):Sy.Writes P F o g t (A++(z++Z)).toArray (A++(v++Z)).toArray :=
 Sy.Writes.store f ty v.toArray x y ho hx hy (by rw [hi,List.size_toArray,hv]) (by rw [List.size_toArray,List.size_toArray,List.length_append,List.length_append]; omega) (by rw [List.all_toArray,List.all_eq_true]; exact h1) (by show setAll _ f v=_; exact setAll_mid hA (by omega))
theorem ones_bv (x:Byt):∀ u∈x.map bv,u.oneCell'=true:=λu hu=>by obtain ⟨y,_,rfl⟩:=List.mem_map.1 hu; rfl
theorem digM_any (w0:Base) (gr:Nat) (sl:Value) (b:Byt) (at_ e:Nat) (R:Blocks) (hat:at_≤b.length) (he:e≤200) (hl:b.length≤70368744177664) (hv:BytR (rdW w0.world) sl b) (w:World) (hw:St w0 w (RB gr sl at_ e R)) :
  Calls Tryz.prog 95 #[ptr gr] w (Turns w0 (Rfd (takeP 32) (λx v N=>v=.agg (x.map bv).toArray∧x.length=32∧N=[]) gr sl b R at_ e)):=by
 refine Sy.enterT (args:=[ptr gr]) hw Tryz.func95 rfl kL ?_
 refine sC ?_
 refine sM 37 Z32.toArray (λg2=>?_)
 refine Sy.movT (pre:=[(gr,168,rrC sl at_ e)]) (T:=R) ?_
 refine sA ?_
 refine sp rfl ?_
 refine Sy.callT (λw hw=>rawM_any w0.inn gr sl b at_ e 32 ((g2,37,Z32.toArray)::R) hat he (by decide) hl hv w hw) (λu M hM=>?_)
 obtain ⟨x,a2,e2,N,q1,⟨q2,q3⟩,q4,q5,rfl⟩:=hM
 obtain ⟨A,n,cp,rfl,k2,k3,k4,k5⟩:=q2.byt
 obtain ⟨gb,ob,rfl,hq⟩:=k5 (by intro h; rw [h] at q3; cases q3)
 refine sp rfl ?_
 refine sA ?_
 refine sM 37 Z32.toArray (λg4=>?_)
 refine Sy.movT (pre:=[(gr,168,rrC sl a2 e2),(g2,37,Z32.toArray)]) (T:=R++N) ?_
 refine sG<|Sy.seq<|sC ?_
 refine sP (.int .i64 0) ?_
 refine sG<|Sy.block ?_
 refine Sy.loopT (Y:=Unit) 32 (λi _=>[(0,ptr gr),(2,ptr g2),(3,.slice (some ⟨gb,ob,none⟩) n cp),(4,ptr g4),(5,.int .i64 (i:Int))]) (λi _=>[(gr,168,rrC sl a2 e2),(g2,37,Z32.toArray),(g4,37,((x.map bv).take i++Z32.drop i).toArray)]++(R++N)) (λ_ _=>True) () trivial (all_cons kR (all_cons kR (all_cons kR (all_cons kR (all_cons kR all_nil))))) (λ_ h=>h) (λi _ hi _=>?_)
 dsimp only
 refine Sy.seq<|sC ?_
 obtain ⟨b2,hb2⟩:∃ z:Bool,z=decide (i<32):=⟨_,rfl⟩
 refine sp rfl<|sS (.bool b2) (Quiet.pure (exec_int .lss _ _ _ .i64 _ _ _ rfl rfl rfl (int_lss _ _ _ _ _ (by rw [hb2]; exact decide_eq_decide.2 (by omega))))) ?_
 refine sG ?_
 cases b2
 case' false =>
  have l2:¬ i<32:=of_decide_eq_false hb2.symm
  obtain rfl:i=32:=by omega
  have ec:(x.map bv).take 32++Z32.drop 32=x.map bv:=by
   rw [List.take_of_length_le (by rw [List.length_map,q3]; exact Nat.le_refl _),show Z32.drop 32=[] from rfl,List.append_nil]
  rw [ec]
  refine sU<|Sy.exit<|Sy.then_exit<|Sy.then_exit<|Sy.in_exit<|Sy.then_<|sC ?_
  refine sS (.agg (x.map bv).toArray) (Quiet.mid 2 g4 0 32 37 37 (x.map bv) (x.map bv) _ _ rfl kR rfl Tryz.underlying37 rfl kR (by rw [List.drop_zero,List.take_of_length_le (by rw [List.length_map,q3]; exact Nat.le_refl _)]) (by rw [List.length_map,q3]; exact Nat.le_refl _))<|sw 1 rfl (x.map bv).toArray (Writes.row 37 (x.map bv) 32 _ _ rfl kR kR kR (by rw [List.length_map,q3]) (by kernel_rfl) (ones_bv x)) ?_
  refine sG<|Sy.ret ?_
  exact Sy.retT1 (RB gr sl a2 e2 (R++[])) rfl (.inl (Sy.Res.cell (ty':=37) g2 1 (x.map bv).toArray _ (by kernel_rfl) rfl Tryz.underlying37 rfl (by rw [List.size_toArray,List.length_map,q3]; kernel_rfl) rfl)) (λ_ h=>h.less (((((List.Sublist.refl R).append (List.nil_sublist N)).cons (g4,37,(x.map bv).toArray)).cons (g2,37,(x.map bv).toArray)).cons_cons (gr,168,rrC sl a2 e2))) ⟨x,a2,e2,[],q1,⟨rfl,q3,rfl⟩,q4,q5,rfl⟩
 have l2:i<32:=of_decide_eq_true hb2.symm
 obtain ⟨u,hu⟩:∃ u,x[i]? = some u:=⟨_,List.getElem?_eq_getElem (by omega)⟩
 have hAl:((x.map bv).take i).length=i:=by rw [List.length_take,List.length_map,q3]; omega
 obtain ⟨z0,Z1,hz⟩:∃ z0 Z1,Z32.drop i=z0::Z1∧Z1=Z32.drop (i+1):=⟨_,_,List.drop_eq_getElem_cons (by rw [Z32_len]; exact l2),rfl⟩
 obtain ⟨hz,hz1⟩:=hz
 have hnx:(x.map bv).take (i+1)++Z32.drop (i+1)=(x.map bv).take i++(bv u::Z1):=by
  rw [List.take_add_one,List.getElem?_map,hu, ← hz1,List.append_assoc]; rfl
 rw [hz]
 refine sT<|Sy.skip<|Sy.then_<|Sy.seq<|Sy.block<|Sy.region ?_
 refine sp rfl<|sp rfl<|sp rfl<|sS (.pointer (some ⟨gb,ob+i*1,none⟩)) (Quiet.pure (exec_atO 27 _ _ _ (some ⟨gb,ob,none⟩) gb ob n cp i 1 .i64 rfl rfl rfl rfl Tryz.underlying27 kF (by omega)))<|sS (bv u) (cellC (R:=N) (g:=gb) (f:=ob+i*1) (.inr (by rw [Nat.mul_one]; exact hq i u hu)) (λb h=>List.mem_append_right _ (List.mem_append_right _ h)) rfl Tryz.underlying5)<|sS (.pointer (some ⟨g4,0+i*1,none⟩)) (Quiet.pure (exec_atA 37 _ _ _ g4 0 _ i 1 .i64 rfl rfl rfl Tryz.underlying37 kF l2))<|sw 2 rfl ((x.map bv).take i++(bv u::Z1)).toArray (Writes.one (0+i*1) 5 (bv u) _ _ rfl kR kR kR rfl rfl (by rw [List.size_toArray,List.length_append,hAl]; simp) (set_mid (by rw [hAl]; omega))) ?_
 refine Sy.nil<|Sy.in_<|Sy.then_<|Sy.region ?_
 refine sp rfl<|sS (.int .i64 ((i+1:Nat):Int)) (Quiet.pure (exec_int .add _ _ _ .i64 _ _ _ rfl rfl rfl (int_add _ _ _ _ _ ((wrap_i64 (by omega) (by omega)).trans (by omega)))))<|sp rfl ?_
 refine Sy.nil ?_
 exact Sy.againT () l2 trivial (all_cons kR (all_cons kR (all_cons kR (all_cons kR (all_cons kR all_nil))))) (λw h=>by rw [hnx]; exact h)
def rowV {α:Type} (k:Nat) (rep:Rdr→List Value→α→Prop) (x:α) (v:Value) (N:Blocks):Prop:=∃ cs,v=.agg cs.toArray∧cs.length=k∧(∀ u∈cs,u.oneCell'=true)∧rep (rdB N) cs x
abbrev ZMH:List Value:=Z32++(Z32++([Value.int .u64 0]++[Value.int .u64 0]))
theorem mhdM_any (w0:Base) (gr:Nat) (sl:Value) (b:Byt) (at_ e:Nat) (R:Blocks) (hat:at_≤b.length) (he:e≤200) (hl:b.length≤70368744177664) (hv:BytR (rdW w0.world) sl b) (w:World) (hw:St w0 w (RB gr sl at_ e R)) :
  Calls Tryz.prog 97 #[ptr gr] w (Turns w0 (Rfd rdMH (rowV 66 repMH) gr sl b R at_ e)):=by
 refine Sy.enterT (args:=[ptr gr]) hw Tryz.func97 rfl kL ?_
 refine sC ?_
 refine sM 52 ZMH.toArray (λg2=>?_)
 refine Sy.movT (pre:=[(gr,168,rrC sl at_ e)]) (T:=R) ?_
 refine sA ?_
 refine sM 52 (([]:List Value)++(Z32++(Z32++([Value.int .u64 0]++[Value.int .u64 0])))).toArray (λg3=>?_)
 refine Sy.movT (pre:=[(gr,168,rrC sl at_ e),(g2,52,ZMH.toArray)]) (T:=R) ?_
 refine sA ?_
 refine sp rfl ?_
 refine Sy.callT (λw hw=>digM_any w0.inn gr sl b at_ e ((g2,52,ZMH.toArray)::(g3,52,(([]:List Value)++(Z32++(Z32++([Value.int .u64 0]++[Value.int .u64 0])))).toArray)::R) hat he hl hv w hw) (λu M hM=>?_)
 obtain ⟨x1,a1,e1,N1,p1,⟨rfl,p2,rfl⟩,p3,p4,rfl⟩:=hM
 rw [List.append_nil]
 have m1:(x1.map bv).length=32:=by rw [List.length_map,p2]
 refine sP (.pointer (some ⟨g3,0,none⟩))<|sw 2 rfl (([]:List Value)++(x1.map bv++(Z32++([Value.int .u64 0]++[Value.int .u64 0])))).toArray (wM 37 [] Z32 (x1.map bv) (Z32++([Value.int .u64 0]++[Value.int .u64 0])) 32 0 _ _ rfl kR kR kR rfl Z32_len m1 (ones_bv x1)) ?_
 refine sA ?_
 refine sp rfl ?_
 refine Sy.callT (λw hw=>digM_any w0.inn gr sl b a1 e1 ((g2,52,ZMH.toArray)::(g3,52,(x1.map bv++(Z32++([Value.int .u64 0]++[Value.int .u64 0]))).toArray)::R) p3 p4 hl hv w hw) (λu M hM=>?_)
 obtain ⟨x2,a2,e2,N2,q1,⟨rfl,q2,rfl⟩,q3,q4,rfl⟩:=hM
 rw [List.append_nil]
 have m2:(x2.map bv).length=32:=by rw [List.length_map,q2]
 have m3:(x1.map bv++x2.map bv).length=64:=by rw [List.length_append,m1,m2]
 refine sP (.pointer (some ⟨g3,32,none⟩))<|sw 2 rfl (x1.map bv++(x2.map bv++([Value.int .u64 0]++[Value.int .u64 0]))).toArray (wM 37 (x1.map bv) Z32 (x2.map bv) ([Value.int .u64 0]++[Value.int .u64 0]) 32 32 _ _ rfl kR kR kR m1 Z32_len m2 (ones_bv x2)) ?_
 refine sA ?_
 refine sp rfl ?_
 refine Sy.callT (λw hw=>numM_any w0.inn gr sl b a2 e2 8 ((g2,52,ZMH.toArray)::(g3,52,(x1.map bv++(x2.map bv++([Value.int .u64 0]++[Value.int .u64 0]))).toArray)::R) q3 q4 (by decide) hl hv w hw) (λu M hM=>?_)
 obtain ⟨x3,a3,e3,N3,r1,⟨rfl,r2,rfl⟩,r3,r4,rfl⟩:=hM
 rw [List.append_nil, ← List.append_assoc (x1.map bv)]
 refine sP (.pointer (some ⟨g3,64,none⟩))<|sw 2 rfl ((x1.map bv++x2.map bv)++(Value.int .u64 (x3:Int)::[Value.int .u64 0])).toArray (Writes.one 64 22 (.int .u64 (x3:Int)) _ _ rfl kR kR kR rfl rfl (by rw [List.size_toArray,List.length_append,m3]; decide) (set_mid m3)) ?_
 refine sA ?_
 refine sp rfl ?_
 refine Sy.callT (λw hw=>numM_any w0.inn gr sl b a3 e3 8 ((g2,52,ZMH.toArray)::(g3,52,((x1.map bv++x2.map bv)++(Value.int .u64 (x3:Int)::[Value.int .u64 0])).toArray)::R) r3 r4 (by decide) hl hv w hw) (λu M hM=>?_)
 obtain ⟨x4,a4,e4,N4,s1,⟨rfl,s2,rfl⟩,s3,s4,rfl⟩:=hM
 have m4:((x1.map bv++x2.map bv)++[Value.int .u64 (x3:Int)]).length=65:=by rw [List.length_append,m3]; rfl
 rw [List.append_nil,show (x1.map bv++x2.map bv)++(Value.int .u64 (x3:Int)::[Value.int .u64 0])=((x1.map bv++x2.map bv)++[Value.int .u64 (x3:Int)])++(Value.int .u64 0::[]) by rw [List.append_assoc _ [Value.int .u64 (x3:Int)]]; rfl]
 obtain ⟨cs,hcs⟩:∃ cs,cs=((x1.map bv++x2.map bv)++[Value.int .u64 (x3:Int)])++(Value.int .u64 (x4:Int)::[]):=⟨_,rfl⟩
 have hlen:cs.length=66:=by rw [hcs,List.length_append,m4]; rfl
 have hrep:∀ C,repMH C cs ⟨x1,x2,x3,x4⟩:=λC=>⟨by rw [hcs]; simp only [List.append_assoc]; rfl,p2,q2,r2,s2⟩
 have hone:∀ u∈cs,u.oneCell'=true:=oneMH (hrep (rdB []))
 refine sP (.pointer (some ⟨g3,65,none⟩))<|sw 2 rfl cs.toArray (Writes.one 65 22 (.int .u64 (x4:Int)) _ _ rfl kR kR kR rfl rfl (by rw [List.size_toArray,List.length_append,m4]; decide) (by rw [hcs]; exact set_mid m4)) ?_
 refine sA ?_
 refine sS (.agg cs.toArray) (Quiet.mid 2 g3 0 66 52 52 cs cs _ _ rfl kR rfl Tryz.underlying52 rfl kR (by rw [List.drop_zero,List.take_of_length_le (by omega)]) (by omega))<|sw 1 rfl cs.toArray (Writes.row 52 cs 66 _ _ rfl kR kR kR hlen (by kernel_rfl) hone) ?_
 refine sG<|Sy.ret ?_
 exact Sy.retT1 (RB gr sl a4 e4 (R++[])) rfl (.inl (Sy.Res.cell (ty':=52) g2 1 cs.toArray _ (by kernel_rfl) rfl Tryz.underlying52 rfl (by rw [List.size_toArray,hlen]; kernel_rfl) rfl)) (λ_ h=>h.less (((((List.Sublist.refl R).append (List.nil_sublist [])).trans (by rw [List.append_nil]; exact List.Sublist.refl R) |>.cons (g3,52,cs.toArray)).cons (g2,52,cs.toArray)).cons_cons (gr,168,rrC sl a4 e4))) ⟨⟨x1,x2,x3,x4⟩,a4,e4,[],p1.bind (q1.bind (r1.bind (s1.bind (After.ret _ _)))),⟨cs,rfl,hlen,hone,hrep _⟩,s3,s4,rfl⟩
theorem endR_any (w:World) (sl:Value) (b:Byt) (at_ e:Nat) (hat:at_≤b.length) (hl:b.length≤70368744177664) (hv:BytR (rdW w) sl b) :
  Calls Tryz.prog 78 #[rrV sl at_ e] w (Gets w (.int .i64 ((if e=0∧at_<b.length then 113 else e:Nat):Int))):=by
 obtain ⟨A,m,cp,rfl,h2,h3,h4,h5⟩:=hv
 rw [h2]
 refine Sy.enter (args:=[rrV (.slice A m cp) at_ e]) Tryz.func78 rfl kL ?_
 refine sC ?_
 refine sM 166 (rrC (.slice A m cp) at_ e) (λg1=>?_)
 refine sP (.int .i64 0) ?_
 refine sG<|Sy.seq<|sC ?_
 obtain ⟨b1,hb1⟩:∃ z:Bool,z=decide (e=0):=⟨_,rfl⟩
 refine sP (.pointer (some ⟨g1,2,none⟩))<|sS (.int .i64 (e:Int)) (qc 0 2 rfl rfl Tryz.underlying28)<|sS (.bool b1) (Quiet.pure (exec_int .eql _ _ _ .i64 _ _ _ rfl rfl rfl (int_eql _ _ _ _ _ (by rw [hb1]; exact decide_eq_decide.2 (by omega)))))<|sp rfl ?_
 cases b1
 ·have l1:¬ e=0:=of_decide_eq_false hb1.symm
  rw [if_neg (λh=>l1 h.1)]
  refine sN<|sN<|sN<|sN<|sN<|sN<|sP (.bool false) ?_
  refine sG<|sU<|Sy.skip<|sB ?_
  refine sP (.pointer (some ⟨g1,2,none⟩))<|sS (.int .i64 (e:Int)) (qc 0 2 rfl rfl Tryz.underlying28)<|sp rfl ?_
  refine sG<|Sy.ret ?_
  exact rV (.int .i64 (e:Int)) rfl
 ·have l1:e=0:=of_decide_eq_true hb1.symm
  obtain ⟨b2,hb2⟩:∃ z:Bool,z=decide (at_<m):=⟨_,rfl⟩
  refine sP (.pointer (some ⟨g1,1,none⟩))<|sS (.int .i64 (at_:Int)) (qc 0 1 rfl rfl Tryz.underlying3)<|sP (.pointer (some ⟨g1,0,none⟩))<|sS (.slice A m cp) (qc 0 0 rfl rfl Tryz.underlying27)<|sP (.int .i64 (m:Int))<|sS (.bool b2) (Quiet.pure (exec_int .lss _ _ _ .i64 _ _ _ rfl rfl rfl (int_lss _ _ _ _ _ (by rw [hb2]; exact decide_eq_decide.2 (by omega)))))<|sP (.bool b2) ?_
  refine sG ?_
  cases b2
  ·rw [if_neg (λh=>of_decide_eq_false hb2.symm h.2)]
   refine sU<|Sy.skip<|sB ?_
   refine sP (.pointer (some ⟨g1,2,none⟩))<|sS (.int .i64 (e:Int)) (qc 0 2 rfl rfl Tryz.underlying28)<|sp rfl ?_
   refine sG<|Sy.ret ?_
   exact rV (.int .i64 (e:Int)) rfl
  ·rw [if_pos ⟨l1,of_decide_eq_true hb2.symm⟩]
   refine sT<|sC ?_
   refine sP (.int .i64 113) ?_
   refine sG<|Sy.ret<|Sy.then_ret ?_
   exact rV (.int .i64 113) rfl
def endN (b:Byt) (at_ e:Nat):Nat:=if e=0∧at_<b.length then 113 else e
theorem endedR_any (w0:Base) (gr:Nat) (sl:Value) (b:Byt) (at_ e:Nat) (R:Blocks) (he:e≤200) (hat:at_≤b.length) (hl:b.length≤70368744177664) (hv:BytR (rdW w0.world) sl b) (w:World) (hw:St w0 w (RB gr sl at_ e R)) :
  Calls Tryz.prog 36 #[ptr gr] w (Turns w0 (λv M=>v=.int .i64 ((if endN b at_ e≠0 then 120 else 0:Nat):Int)∧M=RB gr sl at_ e R)):=by
 have hv0:=hv
 obtain ⟨A,m,cp,rfl,h2,h3,h4,h5⟩:=hv
 obtain ⟨f,hf⟩:∃ f,f=endN b at_ e:=⟨_,rfl⟩
 have hfl:f≤200:=by rw [hf]; unfold endN; split <;> omega
 rw [← hf]
 refine Sy.enterT (args:=[ptr gr]) hw Tryz.func36 rfl kL ?_
 refine sC ?_
 refine sP (.int .i64 0) ?_
 refine sG<|Sy.seq<|sC ?_
 obtain ⟨b1,hb1⟩:∃ z:Bool,z=decide (f≠0):=⟨_,rfl⟩
 refine sp rfl<|sp rfl<|sP (.pointer (some ⟨gr,0,none⟩))<|sS (rrV (.slice A m cp) at_ e) (qk 0 0 3 rfl rfl Tryz.underlying166)<|sS (.int .i64 (f:Int)) (qg (λw' hw=>by rw [hf]; exact endR_any w' (.slice A m cp) b at_ e hat hl (hv0.le (λg o u hu=>rdC_world (w0:=w0.inn) (R:=[]) hw (λ_ h=>by cases h) g o u (.inl hu)))))<|sS (.bool b1) (Quiet.pure (exec_int .neq _ _ _ .i64 _ _ _ rfl rfl rfl (int_neq _ _ _ _ _ (by rw [hb1]; exact decide_eq_decide.2 (by omega))))) ?_
 refine sG ?_
 cases b1
 ·rw [if_neg (of_decide_eq_false hb1.symm)]
  refine sU<|Sy.skip<|sB ?_
  refine sP (.int .i64 0) ?_
  refine sG<|Sy.ret ?_
  exact Sy.retT1 (RB gr (.slice A m cp) at_ e R) rfl (.inl (show _=_ by kernel_rfl)) (λ_ h=>h) ⟨rfl,rfl⟩
 ·rw [if_pos (of_decide_eq_true hb1.symm)]
  refine sT<|sC ?_
  refine sP (.int .i64 120) ?_
  refine sG<|Sy.ret<|Sy.then_ret ?_
  exact Sy.retT1 (RB gr (.slice A m cp) at_ e R) rfl (.inl (show _=_ by kernel_rfl)) (λ_ h=>h) ⟨rfl,rfl⟩
theorem beginR_any (w:World) (sl:Value) (b:Byt) (hv:BytR (rdW w) sl b):Calls Tryz.prog 34 #[sl] w (GetsN w (λv M=>∃ g,v=ptr g∧M=[(g,168,rrC sl 0 0)])):=by
 obtain ⟨A,m,cp,rfl,h2,h3,h4,h5⟩:=hv
 refine Sy.enter (args:=[.slice A m cp]) Tryz.func34 rfl kL ?_
 refine sC ?_
 refine sP (.pointer none) ?_
 refine sA ?_
 refine sp rfl<|sP (rrV (.slice A m cp) 0 0)<|sP (rrV (.slice A m cp) 0 0)<|sM 168 (rrC (.slice A m cp) 0 0) (λg=>?_)
 refine sp rfl ?_
 refine sG<|Sy.ret ?_
 exact Sy.retGM [(g,168,rrC (.slice A m cp) 0 0)] rfl (.inl (show _=_ by kernel_rfl)) (λ_ h=>h) ⟨g,rfl,rfl⟩
end Wr
end
section
namespace Wr
open Go.RowKit Sy
set_option maxRecDepth 100000
set_option maxHeartbeats 4000000
theorem After.stop {α:Type} {p:Ps α} {i n:Nat} {s s':RS} {xs:List α} (h:After (repP p i) s xs s') (he:s'.e≠0) (hin:i≤n):After (repP p n) s xs s' :=
 ⟨λ_=>he,λy r h0 hp=>by
  cases hi:repP p i s.rest with
  | none=>rw [repP_none hi n hin] at hp; cases hp
  | some u =>
   obtain ⟨y1,r1⟩:=u
   obtain ⟨_,e⟩:=h.yes y1 r1 h0 hi
   rw [e] at he
   exact (he rfl).elim,λ_ _=>he⟩
theorem After.snoc {α:Type} {p:Ps α} {i:Nat} {s s1 s2:RS} {xs:List α} {x:α} (h:After (repP p i) s xs s1) (k:After p s1 x s2):After (repP p (i+1)) s (xs++[x]) s2 :=
 have q:=h.bind (q:=λl=>bindP p λx=>retP (l++[x])) (k.bind (q:=λx=>retP (xs++[x])) (After.ret (xs++[x]) s2))
 ⟨q.bad,λy r h0 hp=>q.yes y r h0 (by rw [← repP_snoc]; exact hp),λh0 hp=>q.no h0 (by rw [← repP_snoc]; exact hp)⟩
structure RLst (α:Type) where
 at_:Nat
 e:Nat
 xs:List α
 r:Slc
end Wr
end
section
namespace Wr
open Go.RowKit Sy
set_option maxRecDepth 100000
set_option maxHeartbeats 4000000
abbrev WB (gw:Nat) (bad:Bool) (s:Slc) (R:Blocks):Blocks:=[(gw,88,#[s.v,.bool bad])]++(s.bl++R)
theorem inWB {gw:Nat} {bad:Bool} {s:Slc} {R:Blocks} {x:Nat×TypeId×Array Value} (h:x∈R):x∈WB gw bad s R:=List.mem_append_right _ (List.mem_append_right _ h)
theorem dropW {w0:Base} {gw:Nat} {bad:Bool} {s:Slc} {R X:Blocks} {w:World} (h:St w0 w (WB gw bad s (R++X))):St w0 w (WB gw bad s R):=h.less ((List.Sublist.refl _).append ((List.Sublist.refl _).append (List.sublist_append_left _ _)))
def WRw (gw:Nat) (bad:Bool) (b x:Byt) (R:Blocks) (_:Value) (M:Blocks):Prop:=∃ r,BS r (b++x)∧M=WB gw bad r R
def Wd (gw:Nat) (R:Blocks) (ok:Bool) (e:Byt) (k:Nat) (bad:Bool) (b:Byt) (_:Value) (M:Blocks):Prop:=∃ s' bad' b',Wrote ok e k bad b bad' b'∧BS s' b'∧M=WB gw bad' s' R
theorem wrawW_any (w0:Base) (gw:Nat) (bad:Bool) (s:Slc) (R:Blocks) (b:Byt) (v:Value) (x:Byt) (hb:BS s b) (hx:BytR (rdC w0 R) v x) (hl:b.length+x.length≤70368744177664) (w:World) (hw:St w0 w (WB gw bad s R)) :
  Calls Tryz.prog 87 #[ptr gw,v] w (Turns w0 (WRw gw bad b x R)):=by
 have hx0:=hx
 obtain ⟨A,n,cp,rfl,h2,h3,h4,h5⟩:=hx
 refine Sy.enterT (args:=[ptr gw,.slice A n cp]) hw Tryz.func87 rfl kL ?_
 refine Sy.region ?_
 refine sp rfl<|sp rfl<|sp rfl<|sP (.pointer (some ⟨gw,0,none⟩))<|sS s.v (qc 0 0 rfl rfl Tryz.underlying27)<|sp rfl ?_
 refine Sy.appendM (pre:=[(gw,88,#[s.v,.bool bad])]) (T:=R) kR 27 5 _ _ 1 1 Tryz.underlying27 Cu.info_u8 rfl rfl rfl rfl (by decide) _ _ rfl hb kR (byL_one x) (byL_oneC x) A n cp (by rw [byL_len,h2]) h3 kR (λr=>BytR.from (w0:=w0.inn) hx0 (λy hy=>List.mem_append_right _ (List.mem_append_right _ hy))) (by rw [byL_len]; omega) (by rw [byL_len]; simp only [maxLen]; omega) (λr hr=>?_)
 have hr':BS r (b++x):=by show r.Is 5 1 _; rw [byL_app]; exact hr
 refine sp rfl<|sP (.pointer (some ⟨gw,0,none⟩))<|sw 0 rfl #[r.v,.bool bad] (Writes.one 0 27 r.v _ _ rfl kR kR kR hr.cells.1 hr.cells.2 (Nat.succ_pos _) kR) ?_
 refine Sy.nil ?_
 exact Sy.retT0 rfl (WB gw bad r R) (λ_ h=>h) (λ_=>⟨r,hr',rfl⟩)
theorem numW_any (w0:Base) (gw:Nat) (bad:Bool) (s:Slc) (R:Blocks) (b:Byt) (n k:Nat) (hn:n<18446744073709551616) (hk:k≤8) (hb:BS s b) (hl:b.length+8≤70368744177664) (w:World) (hw:St w0 w (WB gw bad s R)) :
  Calls Tryz.prog 67 #[ptr gw,.int .u64 (n:Int),.int .i64 (k:Int)] w (Turns w0 (WRw gw bad b (nb k n) R)):=by
 refine Sy.enterT (args:=[ptr gw,.int .u64 (n:Int),.int .i64 (k:Int)]) hw Tryz.func67 rfl kL ?_
 refine Sy.region ?_
 refine sp rfl<|sp rfl<|sp rfl ?_
 refine Sy.callN kR 125 #[.int .u64 (n:Int),.int .i64 (k:Int)] kF _ (λw' _=>numberR_any w' n k hn hk) (λu M hM=>?_)
 refine Sy.permS (M:=WB gw bad s (R++M)) (List.Perm.of_eq (by simp only [List.append_assoc])) ?_
 refine Sy.callT (λw hw=>wrawW_any w0.inn gw bad s (R++M) b u (nb k n) hb (hM.byt.le (λg o v h=>.inr (rdB_le (λx hx=>List.mem_append_right _ hx) g o v h))) (by rw [nb_len]; omega) w hw) (λv M2 hM2=>?_)
 obtain ⟨r,hr,rfl⟩:=hM2
 refine Sy.nil ?_
 exact Sy.retT0 rfl (WB gw bad r R) (λ_ h=>dropW h) (λ_=>⟨r,hr,rfl⟩)
theorem textD_any (w:World) (x:Byt) (hx:x.length=32):Calls Tryz.prog 156 #[.agg (x.map bv).toArray] w (GetsN w (ByN x)):=by
 have hxl:(x.map bv).length=32:=by rw [List.length_map,hx]
 refine Sy.enter (args:=[.agg (x.map bv).toArray]) Tryz.func156 rfl kL ?_
 refine sC ?_
 refine sM 37 (x.map bv).toArray (λg1=>?_) kR (λw=>run_boxR rfl rfl (by kernel_rfl) hxl w)
 refine sP (.slice none 0 0) ?_
 refine sA ?_
 refine sP (.slice none 0 0) ?_
 refine sG<|Sy.seq<|sC ?_
 refine sP (.int .i64 0) ?_
 refine sG<|Sy.block ?_
 refine Sy.loopT (Y:=Slc) 32 (λi y=>[(1,ptr g1),(3,y.v),(4,.int .i64 (i:Int))]) (λi y=>[(g1,37,(x.map bv).toArray)]++(y.bl++[])) (λi y=>BS y (x.take i)) nilS BS.nil (all_cons kR (all_cons kR (all_cons kR all_nil))) (λ_ h=>h) (λi r hi hs=>?_)
 dsimp only at hs ⊢
 refine Sy.seq<|sC ?_
 obtain ⟨b2,hb2⟩:∃ z:Bool,z=decide (i<32):=⟨_,rfl⟩
 refine sp rfl<|sS (.bool b2) (Quiet.pure (exec_int .lss _ _ _ .i64 _ _ _ rfl rfl rfl (int_lss _ _ _ _ _ (by rw [hb2]; exact decide_eq_decide.2 (by omega))))) ?_
 refine sG ?_
 cases b2
 case' false =>
  have l2:¬ i<32:=of_decide_eq_false hb2.symm
  obtain rfl:i=32:=by omega
  rw [List.take_of_length_le (by omega)] at hs
  refine sU<|Sy.exit<|Sy.then_exit<|Sy.then_exit<|Sy.in_exit<|Sy.then_<|sC ?_
  refine sp rfl<|sp rfl ?_
  refine sG<|Sy.ret ?_
  exact Sy.retGM r.bl rfl (.inl (show _=_ by kernel_rfl)) (λ_ h=>by rw [List.append_nil] at h; exact h.less (List.sublist_cons_self _ _)) hs.as
 have l2:i<32:=of_decide_eq_true hb2.symm
 obtain ⟨u,hu⟩:∃ u,x[i]? = some u:=⟨_,List.getElem?_eq_getElem (by omega)⟩
 refine sT<|Sy.skip<|Sy.then_<|Sy.seq<|Sy.block<|Sy.region ?_
 refine sp rfl<|sp rfl<|sS (.pointer (some ⟨g1,0+i*1,none⟩)) (Quiet.pure (exec_atA 37 _ _ _ g1 0 _ i 1 .i64 rfl rfl rfl Tryz.underlying37 kF l2))<|sS (bv u) (Quiet.cell 0 g1 (0+i*1) 37 5 (x.map bv).toArray _ _ rfl kR rfl Tryz.underlying5 rfl _ (by rw [Nat.zero_add,Nat.mul_one,List.getElem?_toArray,List.getElem?_map,hu]; rfl)) ?_
 refine Sy.make kR 5 #[bv u] (λg=>.slice (some ⟨g,0,none⟩) 1 1) kF (λg2=>?_)
 refine Sy.movT (pre:=[(g1,37,(x.map bv).toArray)]) (T:=r.bl++[]) ?_
 refine Sy.appendR (pre:=[(g1,37,(x.map bv).toArray),(g2,5,#[bv u])]) (T:=[]) kR 27 5 _ _ 1 1 Tryz.underlying27 Cu.info_u8 rfl rfl rfl rfl (by decide) _ _ rfl hs kR [bv u] rfl (λu hu=>by rw [List.mem_singleton.1 hu]; rfl) 1 g2 5 kR kR (by rw [byL_len,List.length_take]; omega) (by rw [byL_len,List.length_take]; simp only [maxLen]; omega) (λr' hr=>?_)
 refine sp rfl ?_
 refine Sy.nil<|Sy.in_<|Sy.then_<|Sy.region ?_
 refine sp rfl<|sS (.int .i64 ((i+1:Nat):Int)) (Quiet.pure (exec_int .add _ _ _ .i64 _ _ _ rfl rfl rfl (int_add _ _ _ _ _ ((wrap_i64 (by omega) (by omega)).trans (by omega)))))<|sp rfl ?_
 refine Sy.nil ?_
 have hr':BS r' (x.take (i+1)):=by
  show r'.Is 5 1 _
  rw [List.take_add_one,hu,show byL (x.take i++(some u).toList)=byL (x.take i)++[[bv u]] from byL_app _ _]
  exact hr
 exact Sy.againT r' l2 hr' (all_cons kR (all_cons kR (all_cons kR all_nil))) (λw h=>h.less ((List.sublist_cons_self (g2,5,#[bv u]) (r'.bl++[])).cons_cons (g1,37,(x.map bv).toArray)))
theorem digW_any (w0:Base) (gw:Nat) (bad:Bool) (s:Slc) (R:Blocks) (b:Byt) (x:Byt) (hx:x.length=32) (hb:BS s b) (hl:b.length+32≤70368744177664) (w:World) (hw:St w0 w (WB gw bad s R)) :
  Calls Tryz.prog 92 #[ptr gw,.agg (x.map bv).toArray] w (Turns w0 (WRw gw bad b x R)):=by
 have hxl:(x.map bv).length=32:=by rw [List.length_map,hx]
 refine Sy.enterT (args:=[ptr gw,.agg (x.map bv).toArray]) hw Tryz.func92 rfl kL ?_
 refine sC ?_
 refine sM 37 (x.map bv).toArray (λg3=>?_) kR (λw=>run_boxR rfl rfl (by kernel_rfl) hxl w)
 refine Sy.permS (M:=WB gw bad s (R++[(g3,37,(x.map bv).toArray)])) (List.Perm.of_eq (by simp only [List.append_assoc])) ?_
 refine Sy.nil<|Sy.then_<|Sy.region ?_
 refine sp rfl<|sS (.agg (x.map bv).toArray) (rowC (R:=[(g3,37,(x.map bv).toArray)]) (g:=g3) (f:=0) (k:=32) (cs:=x.map bv) (λi u hu=>.inr ⟨_,_,List.mem_singleton.2 rfl,by rw [Nat.zero_add,List.getElem?_toArray]; exact hu⟩) (λy hy=>inWB (List.mem_append_right R hy)) hxl rfl Tryz.underlying37) ?_
 refine Sy.callN kR 156 #[.agg (x.map bv).toArray] kF _ (λw' _=>textD_any w' x hx) (λu M hM=>?_)
 refine Sy.permS (M:=WB gw bad s (R++([(g3,37,(x.map bv).toArray)]++M))) (List.Perm.of_eq (by simp only [List.append_assoc])) ?_
 refine Sy.callT (λw hw=>wrawW_any w0.inn gw bad s (R++([(g3,37,(x.map bv).toArray)]++M)) b u x hb (hM.byt.le (λg o v h=>.inr (rdB_le (λy hy=>List.mem_append_right _ (List.mem_append_right _ hy)) g o v h))) (by omega) w hw) (λv M2 hM2=>?_)
 obtain ⟨r,hr,rfl⟩:=hM2
 refine Sy.nil ?_
 exact Sy.retT0 rfl (WB gw bad r R) (λ_ h=>dropW h) (λ_=>⟨r,hr,rfl⟩)
theorem mustW_any (w0:Base) (gw:Nat) (bad ok:Bool) (s:Slc) (R:Blocks) (w:World) (hw:St w0 w (WB gw bad s R)) :
  Calls Tryz.prog 126 #[ptr gw,.bool ok] w (Turns w0 (λ_ M=>M=WB gw (bad || !ok) s R)):=by
 refine Sy.enterT (args:=[ptr gw,.bool ok]) hw Tryz.func126 rfl kL ?_
 refine sC ?_
 refine sp rfl<|sP (.bool (!ok)) ?_
 refine sG ?_
 cases ok
 ·rw [show (bad || !false)=true by cases bad <;> rfl]
  refine sT<|Sy.region ?_
  refine sp rfl<|sp rfl<|sP (.pointer (some ⟨gw,1,none⟩))<|sw 0 rfl #[s.v,.bool true] (wO 1 4 (.bool true) rfl) ?_
  refine Sy.nil ?_
  exact Sy.retT0 (R:=λ_ M=>M=WB gw true s R) rfl (WB gw true s R) (λ_ h=>h) (λ_=>rfl)
 ·rw [show (bad || !true)=bad by cases bad <;> rfl]
  refine sU<|Sy.skip ?_
  exact Sy.retT0 (R:=λ_ M=>M=WB gw bad s R) rfl (WB gw bad s R) (λ_ h=>h) (λ_=>rfl)
theorem manyW_any (w0:Base) (gw:Nat) (bad:Bool) (s:Slc) (R:Blocks) (b:Byt) (n most:Nat) (hn:n≤1000000000000) (hm:most≤1000000) (hb:BS s b) (hl:b.length+9≤70368744177664) (w:World) (hw:St w0 w (WB gw bad s R)) :
  Calls Tryz.prog 68 #[ptr gw,.int .i64 (n:Int),.int .i64 (most:Int)] w (Turns w0 (Wd gw R (decide (n≤most)) (varB n) 9 bad b)):=by
 refine Sy.enterT (args:=[ptr gw,.int .i64 (n:Int),.int .i64 (most:Int)]) hw Tryz.func68 rfl kL ?_
 refine sC ?_
 obtain ⟨ok,hok⟩:∃ z:Bool,z=decide (n≤most):=⟨_,rfl⟩
 rw [← hok]
 refine sp rfl<|sp rfl<|sp rfl<|sS (.bool ok) (Quiet.pure (exec_int .leq _ _ _ .i64 _ _ _ rfl rfl rfl (int_leq _ _ _ _ _ (by rw [hok]; exact decide_eq_decide.2 (by omega))))) ?_
 refine Sy.callT (λw hw=>mustW_any w0.inn gw bad ok s R w hw) (λv M hM=>?_)
 subst hM
 refine Sy.nil<|Sy.then_<|Sy.region ?_
 refine sp rfl<|sp rfl<|sS (.int .u64 (n:Int)) (Quiet.pure (λw=>conv_i6 w _ _ _ n (by omega) rfl rfl)) ?_
 refine Sy.callN kR 127 #[.int .u64 (n:Int)] kF _ (λw' _=>varR_any w' n (by omega)) (λu M hM=>?_)
 refine Sy.permS (M:=WB gw (bad || !ok) s (R++M)) (List.Perm.of_eq (by simp only [List.append_assoc])) ?_
 have hvl:=varB_len n
 refine Sy.callT (λw hw=>wrawW_any w0.inn gw (bad || !ok) s (R++M) b u (varB n) hb (hM.byt.le (λg o v h=>.inr (rdB_le (λx hx=>List.mem_append_right _ hx) g o v h))) (by omega) w hw) (λv M2 hM2=>?_)
 obtain ⟨r,hr,rfl⟩:=hM2
 refine Sy.nil ?_
 have q:=(Wrote.must ok bad b).then_ (Wrote.raw (varB n) (bad || !ok) b hvl)
 rw [Bool.and_true] at q
 exact Sy.retT0 rfl (WB gw (bad || !ok) r R) (λ_ h=>dropW h) (λ_=>⟨r,bad || !ok,b++varB n,q,hr,rfl⟩)
theorem doneW_any (w0:Base) (gw:Nat) (bad:Bool) (s:Slc) (R:Blocks) (w:World) (hw:St w0 w (WB gw bad s R)) :
  Calls Tryz.prog 32 #[ptr gw] w (Turns w0 (λv M=>v=(if bad=true then .tuple #[.slice none 0 0,.int .i64 120] else .tuple #[s.v,.int .i64 0])∧M=WB gw bad s R)):=by
 refine Sy.enterT (args:=[ptr gw]) hw Tryz.func32 rfl kL ?_
 refine sC ?_
 refine sP (.slice none 0 0)<|sP (.int .i64 0) ?_
 refine sG<|Sy.seq<|sC ?_
 refine sp rfl<|sp rfl<|sP (.pointer (some ⟨gw,1,none⟩))<|sS (.bool bad) (qc 0 1 rfl rfl Tryz.underlying4) ?_
 refine sG ?_
 cases bad
 ·rw [if_neg (by decide)]
  refine sU<|Sy.skip<|sB ?_
  refine sp rfl<|sp rfl<|sP (.pointer (some ⟨gw,0,none⟩))<|sS s.v (qc 0 0 rfl rfl Tryz.underlying27)<|sp rfl<|sP (.int .i64 0) ?_
  refine sG<|Sy.ret ?_
  exact Sy.retT2 (WB gw false s R) rfl (.inl (show _=_ by kernel_rfl)) (.inl (show _=_ by kernel_rfl)) (λ_ h=>h) ⟨rfl,rfl⟩
 ·rw [if_pos rfl]
  refine sT<|sC ?_
  refine sP (.slice none 0 0)<|sP (.int .i64 120) ?_
  refine sG<|Sy.ret<|Sy.then_ret ?_
  exact Sy.retT2 (WB gw true s R) rfl (.inl (show _=_ by kernel_rfl)) (.inl (show _=_ by kernel_rfl)) (λ_ h=>h) ⟨rfl,rfl⟩
theorem mhdW_any (w0:Base) (gw:Nat) (bad:Bool) (s:Slc) (R:Blocks) (b:Byt) (h:MHd) (h1:h.prev.length=32) (h2:h.root.length=32) (h3:h.height<18446744073709551616) (h4:h.nonce<18446744073709551616) (hb:BS s b) (hl:b.length+80≤70368744177664) (w:World) (hw:St w0 w (WB gw bad s R)) :
  Calls Tryz.prog 94 #[ptr gw,.agg (h.prev.map bv++(h.root.map bv++[Value.int .u64 (h.height:Int),Value.int .u64 (h.nonce:Int)])).toArray] w (Turns w0 (WRw gw bad b (encMH h) R)):=by
 obtain ⟨cs,hcs⟩:∃ cs,cs=h.prev.map bv++(h.root.map bv++[Value.int .u64 (h.height:Int),.int .u64 (h.nonce:Int)]):=⟨_,rfl⟩
 have m1:(h.prev.map bv).length=32:=by rw [List.length_map,h1]
 have m2:(h.root.map bv).length=32:=by rw [List.length_map,h2]
 have hlen:cs.length=66:=by rw [hcs,List.length_append,List.length_append,m1,m2]; rfl
 rw [← hcs]
 refine Sy.enterT (args:=[ptr gw,.agg cs.toArray]) hw Tryz.func94 rfl kL ?_
 refine sC ?_
 refine sM 52 cs.toArray (λg3=>?_) kR (λw=>run_boxR rfl rfl (by kernel_rfl) hlen w)
 refine Sy.permS (M:=WB gw bad s (R++[(g3,52,cs.toArray)])) (List.Perm.of_eq (by simp only [List.append_assoc])) ?_
 have hX0:∀ l,l=cs→XAt (rdC w0.inn [(g3,52,cs.toArray)]) g3 0 l:=λl e i u hu=>.inr ⟨_,_,List.mem_singleton.2 rfl,by rw [Nat.zero_add,List.getElem?_toArray, ← e]; exact hu⟩
 have hX:=hX0 _ hcs.symm
 have hX1:=hX.left
 have hX2:=(hX.right m1).left
 have hX3:=((hX.right m1).right m2).one
 have hX4:=((hX.right m1).right m2).tail.one
 refine sA ?_
 refine sp rfl<|sP (.pointer (some ⟨g3,0,none⟩))<|sS (.agg (h.prev.map bv).toArray) (rowC (R:=[(g3,52,cs.toArray)]) (g:=g3) (f:=0) (k:=32) (cs:=h.prev.map bv) hX1 (λy hy=>inWB (List.mem_append_right R hy)) m1 rfl Tryz.underlying37) ?_
 refine Sy.callT (λw hw=>digW_any w0.inn gw bad s (R++[(g3,52,cs.toArray)]) b h.prev h1 hb (by omega) w hw) (λv M hM=>?_)
 obtain ⟨r1,hr1,rfl⟩:=hM
 refine sA ?_
 refine sp rfl<|sP (.pointer (some ⟨g3,0+32,none⟩))<|sS (.agg (h.root.map bv).toArray) (rowC (R:=[(g3,52,cs.toArray)]) (g:=g3) (f:=0+32) (k:=32) (cs:=h.root.map bv) hX2 (λy hy=>inWB (List.mem_append_right R hy)) m2 rfl Tryz.underlying37) ?_
 refine Sy.callT (λw hw=>digW_any w0.inn gw bad r1 (R++[(g3,52,cs.toArray)]) (b++h.prev) h.root h2 hr1 (by rw [List.length_append]; omega) w hw) (λv M hM=>?_)
 obtain ⟨r2,hr2,rfl⟩:=hM
 refine sA ?_
 refine sp rfl<|sP (.pointer (some ⟨g3,0+32+32,none⟩))<|sS (.int .u64 (h.height:Int)) (cellC (R:=[(g3,52,cs.toArray)]) (g:=g3) (f:=0+32+32) hX3 (λy hy=>inWB (List.mem_append_right R hy)) rfl Tryz.underlying22) ?_
 refine Sy.callT (λw hw=>numW_any w0.inn gw bad r2 (R++[(g3,52,cs.toArray)]) (b++h.prev++h.root) h.height 8 h3 (by decide) hr2 (by rw [List.length_append,List.length_append]; omega) w hw) (λv M hM=>?_)
 obtain ⟨r3,hr3,rfl⟩:=hM
 refine Sy.nil<|Sy.then_<|Sy.region ?_
 refine sp rfl<|sP (.pointer (some ⟨g3,0+32+32+1,none⟩))<|sS (.int .u64 (h.nonce:Int)) (cellC (R:=[(g3,52,cs.toArray)]) (g:=g3) (f:=0+32+32+1) hX4 (λy hy=>inWB (List.mem_append_right R hy)) rfl Tryz.underlying22) ?_
 refine Sy.callT (λw hw=>numW_any w0.inn gw bad r3 (R++[(g3,52,cs.toArray)]) (b++h.prev++h.root++nb 8 h.height) h.nonce 8 h4 (by decide) hr3 (by rw [List.length_append,List.length_append,List.length_append,nb_len]; omega) w hw) (λv M hM=>?_)
 obtain ⟨r4,hr4,rfl⟩:=hM
 refine Sy.nil ?_
 have e:b++encMH h=b++h.prev++h.root++nb 8 h.height++nb 8 h.nonce:=by unfold encMH; simp only [List.append_assoc]
 exact Sy.retT0 rfl (WB gw bad r4 R) (λ_ h=>dropW h) (λ_=>⟨r4,by rw [e]; exact hr4,rfl⟩)
end Wr
end
section
namespace Wr
open Go.RowKit Sy
set_option maxRecDepth 100000
set_option maxHeartbeats 4000000
theorem lst_all {α:Type} {C:Rdr} {k:Nat} {rep:Rdr→List Value→α→Prop} {v:Value} {l:List α} {q:α→Prop} (h:LstR C k rep v l) (hq:∀ cs x,rep C cs x→q x):∀ x∈l,q x:=by
 obtain ⟨A,n,cp,rfl,h2,h3,h4,h5⟩:=h
 intro x hx
 obtain ⟨g,o,rfl,h6⟩:=h5 (List.ne_nil_of_mem hx)
 obtain ⟨j,hj⟩:=List.getElem?_of_mem hx
 obtain ⟨cs,_,_,q3,_⟩:=h6 j x hj
 exact hq cs x q3
end Wr
end
section
namespace Wr
open Go.RowKit Sy
set_option maxRecDepth 100000
set_option maxHeartbeats 4000000
def m0:MTx:=⟨1,[⟨2,List.replicate 32 0⟩]⟩
def b49:Byt:=encMT m0
theorem m0_ok:okMT m0=true:=by kernel_rfl
theorem b49_len:b49.length=49:=by kernel_rfl
theorem m0_rd:allP rdMT b49=some m0:=by kernel_rfl
theorem m0_at {w0:Base} {w:World} {L:Blocks} {g:Nat} {t:TypeId} (hw:St w0 w L) (hL:(g,t,(Value.int .u64 2::Z32).toArray)∈L):repMT (rdW w) [.int .u64 1,.slice (some ⟨g,0,none⟩) 1 1] m0:=by
 refine ⟨_,rfl,(show 1<18446744073709551616 by decide),_,_,_,rfl,rfl,Nat.le_refl _,(by decide),λ_=>⟨g,0,rfl,λj x hx=>?_⟩⟩
 cases j with
 | succ j=>cases hx
 | zero =>
  cases hx
  refine ⟨Value.int .u64 2::Z32,rfl,λu hu=>?_,⟨rfl,by decide,rfl⟩,λi u hu=>?_⟩
  ·rcases List.mem_cons.1 hu with rfl | hu
   ·rfl
   ·obtain ⟨y,_,rfl⟩:=List.mem_map.1 hu; rfl
  ·exact rdB_world hw (R:=[(g,t,(Value.int .u64 2::Z32).toArray)]) (λb hb=>by rw [List.mem_singleton.1 hb]; exact hL) _ _ _ ⟨t,_,List.mem_singleton.2 rfl,by rw [Nat.zero_mul,Nat.add_zero,Nat.zero_add,List.getElem?_toArray]; exact hu⟩
theorem alive12 (w:World):Calls Tryz.prog 11 #[] w (Gets w (.bool true)):=by
 refine Sy.enter (args:=[]) Tryz.func11 rfl kL ?_
 refine sC ?_
 refine sP (.bool false) ?_
 refine sA ?_
 refine sP (.agg (Value.int .u64 2::Z32).toArray) ?_
 refine Sy.make kR 98 (Value.int .u64 2::Z32).toArray (λg=>.slice (some ⟨g,0,none⟩) 1 1) (Makes.one 99 98 _ _ 33 _ (Value.int .u64 2::Z32) rfl kR Tryz.underlying99 info_mo rfl rfl rfl (by decide) (by decide)) (λg=>?_)
 refine sP (.agg #[.int .u64 1,.slice (some ⟨g,0,none⟩) 1 1]) ?_
 refine Sy.callN kR 37 #[.agg #[.int .u64 1,.slice (some ⟨g,0,none⟩) 1 1]] kF (BytE (okMT m0) b49) (λw' hw=>ex_mtx (rep:=repMT) (ok:=okMT) (enc:=encMT) (wt:=wtMT) monoMT mainTx_w w' [.int .u64 1,.slice (some ⟨g,0,none⟩) 1 1] m0 (m0_at hw (List.mem_append_right _ (List.mem_singleton.2 rfl))) rfl (by decide)) (λv M1 hM=>?_)
 rcases hM with ⟨_,u,rfl,hN⟩ | ⟨h,_⟩
 case inr=>rw [m0_ok] at h; cases h
 have hN0:=hN.byt
 obtain ⟨A,n,cp,rfl,h2,h3,h4,h5⟩:=hN.byt
 obtain rfl:49=n:=by rw [← h2]; exact b49_len.symm
 obtain ⟨gb,ob,rfl,hq⟩:=h5 (by intro e; have q:=b49_len; rw [e] at q; cases q)
 refine sp rfl<|sp rfl<|sp rfl<|sp rfl<|sp rfl ?_
 refine sA ?_
 refine sp rfl ?_
 refine Sy.callN kR 38 #[.slice (some ⟨gb,ob,none⟩) 49 cp] kF (RdE 2 ([Value.int .u64 0]++[Value.slice none 0 0]) repMT (allP rdMT b49)) (λw' hw=>rdx_mtx (rep:=repMT) (p:=rdMT) monoMT (@oneMT) mainTx_r w' _ b49 (hN0.le (rdB_world hw (λb hb=>List.mem_append_right _ hb))) (by rw [b49_len]; decide)) (λv M2 hM=>?_)
 rcases hM with ⟨x,cs,hx,rfl,hcs,hrep⟩ | ⟨h,_⟩
 case inr=>rw [m0_rd] at h; cases h
 rw [m0_rd] at hx
 obtain rfl:m0=x:=by injection hx
 obtain ⟨v2,rfl,_,A2,n2,c2,rfl,k2,k3,k4,k5⟩:=hrep
 obtain rfl:1=n2:=k2
 obtain ⟨g2,o2,rfl,hq2⟩:=k5 (by intro e; cases e)
 obtain ⟨cs0,d1,d2,⟨rfl,_,_⟩,d3⟩:=hq2 0 _ rfl
 refine sp rfl<|sp rfl<|sp rfl ?_
 refine sM 101 #[.int .u64 0,.slice none 0 0] (λg3=>?_)
 refine Sy.permS List.perm_append_comm ?_
 refine sw 0 rfl #[.int .u64 1,.slice (some ⟨g2,o2,none⟩) 1 c2] (wA rfl)<|sp rfl ?_
 refine sA ?_
 refine sP (.agg zOut.toArray) ?_
 refine Sy.callN kR 24 #[.agg zOut.toArray] kF (BytE false []) (λw' hw=>ex_outz (rep:=repOZ) (ok:=λ_=>false) (enc:=λ_=>[]) (wt:=λ_=>1) monoOZ outz_w w' zOut () rfl rfl (by decide)) (λv M3 hM=>?_)
 rcases hM with ⟨h,_⟩ | ⟨_,rfl,rfl⟩
 case inl=>cases h
 rw [List.append_nil]
 refine sp rfl<|sp rfl<|sp rfl<|sp rfl<|sp rfl ?_
 obtain ⟨X,hX⟩:∃ X,X=[(g,98,(Value.int .u64 2::Z32).toArray)]++M1++M2:=⟨_,rfl⟩
 have i1:∀ b∈M1,b∈(g3,101,#[.int .u64 1,.slice (some ⟨g2,o2,none⟩) 1 c2])::([]++[(g,98,(Value.int .u64 2::Z32).toArray)]++M1++M2):=λb hb=>by simp [hb]
 have i2:∀ b∈M2,b∈(g3,101,#[.int .u64 1,.slice (some ⟨g2,o2,none⟩) 1 c2])::([]++[(g,98,(Value.int .u64 2::Z32).toArray)]++M1++M2):=λb hb=>by simp [hb]
 refine sA ?_
 refine sp rfl<|sP (.bool true)<|sp rfl<|sp rfl<|sP (.int .i64 49)<|sP (.bool true)<|sP (.bool true) ?_
 refine sp rfl<|sp rfl<|sS (.pointer (some ⟨gb,ob+7*1,none⟩)) (Quiet.pure (exec_atO 27 _ _ _ (some ⟨gb,ob,none⟩) gb ob 49 cp 7 1 .i64 rfl rfl rfl rfl Tryz.underlying27 kF (by decide)))<|sS (bv 1) (cellC (w0:=Base.of w) (R:=M1) (g:=gb) (f:=ob+7*1) (v:=bv 1) (.inr (hq 7 1 (by kernel_rfl))) i1 rfl Tryz.underlying5)<|sP (.bool true)<|sP (.bool true) ?_
 refine sp rfl<|sp rfl<|sS (.pointer (some ⟨gb,ob+8*1,none⟩)) (Quiet.pure (exec_atO 27 _ _ _ (some ⟨gb,ob,none⟩) gb ob 49 cp 8 1 .i64 rfl rfl rfl rfl Tryz.underlying27 kF (by decide)))<|sS (bv 1) (cellC (w0:=Base.of w) (R:=M1) (g:=gb) (f:=ob+8*1) (v:=bv 1) (.inr (hq 8 1 (by kernel_rfl))) i1 rfl Tryz.underlying5)<|sP (.bool true)<|sP (.bool true) ?_
 refine sp rfl<|sp rfl<|sP (.bool true)<|sP (.bool true) ?_
 refine sp rfl<|sP (.pointer (some ⟨g3,0,none⟩))<|sS (.int .u64 1) (qc 0 0 rfl rfl Tryz.underlying22)<|sP (.bool true)<|sP (.bool true) ?_
 refine sp rfl<|sP (.pointer (some ⟨g3,1,none⟩))<|sS (.slice (some ⟨g2,o2,none⟩) 1 c2) (qc 0 1 rfl rfl Tryz.underlying99)<|sP (.int .i64 1)<|sP (.bool true)<|sP (.bool true) ?_
 refine sp rfl<|sP (.pointer (some ⟨g3,1,none⟩))<|sS (.slice (some ⟨g2,o2,none⟩) 1 c2) (qc 0 1 rfl rfl Tryz.underlying99)<|sS (.pointer (some ⟨g2,o2+0*33,none⟩)) (Quiet.pure (exec_atO 99 _ _ _ (some ⟨g2,o2,none⟩) g2 o2 1 c2 0 33 .i64 rfl rfl rfl rfl Tryz.underlying99 kF (by decide)))<|sP (.pointer (some ⟨g2,o2+0*33,none⟩))<|sS (.int .u64 2) (cellC (w0:=Base.of w) (R:=M2) (g:=g2) (f:=o2+0*33) (v:=.int .u64 2) (.inr d3.one) i2 rfl Tryz.underlying22)<|sP (.bool true)<|sP (.bool true) ?_
 refine sp rfl<|sp rfl<|sP (.bool true)<|sP (.bool true)<|sp rfl ?_
 refine sG<|Sy.ret ?_
 exact rV (.bool true) rfl
end Wr
end
section
namespace Wr
open Go.RowKit Sy
set_option maxRecDepth 100000
set_option maxHeartbeats 4000000
theorem rep_le {α:Type} {p:Ps α}:∀ {n:Nat} {l r:Byt} {xs:List α},repP p n l=some (xs,r)→xs.length=n
 | 0,l,r,xs,h=>by
  unfold repP retP at h
  cases h
  rfl
 | n+1,l,r,xs,h=>by
  unfold repP bindP at h
  cases hp:p l with
  | none=>rw [hp] at h; cases h
  | some u =>
   obtain ⟨x,r1⟩:=u
   rw [hp] at h
   dsimp only at h
   cases hq:repP p n r1 with
   | none=>rw [hq] at h; cases h
   | some u =>
    obtain ⟨ys,r2⟩:=u
    rw [hq] at h
    dsimp only [retP] at h
    have:=rep_le hq
    cases h
    simp [this]
theorem var_le {most n:Nat} {l r:Byt} (h:varP most l=some (n,r)):n≤most:=by
 unfold varP at h
 cases hp:bindP (numP 1) (λc=>if c<253 then retP c else longP c) l with
 | none=>rw [bind_none hp] at h; cases h
 | some u =>
  obtain ⟨x,r1⟩:=u
  rw [bind_some hp] at h
  unfold bindP mustP at h
  by_cases hx:x≤most
  ·simp only [hx,decide_true,if_true] at h
   cases h
   exact hx
  ·simp only [hx,decide_false,Bool.false_eq_true,if_false] at h
   cases h
theorem lst_le {α:Type} {p:Ps α} {most:Nat} {l r:Byt} {xs:List α} (h:listP most p l=some (xs,r)):xs.length≤most:=by
 unfold listP at h
 cases hp:varP most l with
 | none=>rw [bind_none hp] at h; cases h
 | some u =>
  obtain ⟨n,r1⟩:=u
  rw [bind_some hp] at h
  rw [rep_le h]
  exact var_le hp
theorem all_some {α:Type} {p:Ps α} {l:Byt} {x:α} (h:allP p l=some x):p l=some (x,[]):=by
 unfold allP at h
 cases hp:p l with
 | none=>rw [hp] at h; cases h
 | some u =>
  obtain ⟨y,r⟩:=u
  rw [hp] at h
  cases r with
  | nil=>cases h; rfl
  | cons=>cases h
end Wr
end
section
namespace Wr
open Go.RowKit Sy
set_option maxRecDepth 100000
set_option maxHeartbeats 4000000
theorem oneE {P:Program} {w0:Base} {n:Nat} {Q:Exit→Act→World→Prop} {F:Slots} {L:Blocks} {ops:Array Oper} {ex:Nat→Bool} {fuel:Nat} {listed:Array Bool} {k:Nat} {oi:Oper} (hi0:ops.toList[k]? = some oi) (hg:wantedF ops F oi=some true) (hex:ex k=true) (h:∀ Q',(∀ F' L',wpD P w0 n ops Q ex F' L' fuel (listed.setIfInBounds k true)→wpS P w0 n ops Q' F' L' [])→wpS P w0 n ops Q' F L [oi]):wpO P w0 n ops Q ex F L fuel listed k :=
 ⟨oi,by simpa using hi0,hg,λa w ha hw w1 h1 K hK=>by
  have q:=h (onlyQ Q K) (λF' L' hd a' w' ha' hw'=>wpList_nil (hK _ _ (λe=>by rw [hex] at e; cases e) (hd a' w' ha' hw'))) a w1 ha (hw.gr h1)
  unfold wpList at q
  rw [if_pos (ha.wanted hg)] at q
  rcases q with q | ⟨_,a',w',q⟩
  ·exact wp_only (K':=K) q
  ·exact q.elim⟩
theorem leafE {P:Program} {w0:Base} {n:Nat} {Q:Exit→Act→World→Prop} {F:Slots} {L:Blocks} {ops:Array Oper} {ex:Nat→Bool} {fuel:Nat} {listed:Array Bool} {T:Type} {FF:T→Slots} {LL:T→Blocks} {H:T→Prop} {li:Array Bool} (h:∀ x,H x→wpD P w0 n ops Q ex (FF x) (LL x) fuel li) (x:T) (hx:H x) (hl:listed=li) (hF:∀ p∈FF x,F.lookup p.1=some p.2) (p:L.Perm (LL x)):wpD P w0 n ops Q ex F L fuel listed:=λa w ha hw=>by
 subst hl
 exact h x hx a w (ha.all hF) (hw.perm p)
def smlP (lo hi:Nat):Ps Int:=bindP (numP 1) λn=>bindP (mustP (decide (lo≤n∧n≤hi))) λ_=>retP (n:Int)
theorem sml_oct:smlP 0 255=octP:=by
 funext l
 unfold smlP octP
 cases h:numP 1 l with
 | none=>rw [bind_none h,bind_none h]
 | some u =>
  obtain ⟨n,r⟩:=u
  have hn:n<256:=num_lt h
  rw [bind_some h,bind_some h,decide_eq_true (show 0≤n∧n≤255 by omega)]
  rfl
theorem failM_any (w0:Base) (gr:Nat) (sl:Value) (at_ e:Nat) (R:Blocks) (w:World) (hw:St w0 w (RB gr sl at_ e R)) :
  Calls Tryz.prog 154 #[ptr gr] w (Turns w0 (λ_ M=>M=RB gr sl at_ (if e=0 then 120 else e) R)):=by
 refine Sy.enterT (args:=[ptr gr]) hw Tryz.func154 rfl kL ?_
 refine sC ?_
 obtain ⟨b1,hb1⟩:∃ z:Bool,z=decide (e=0):=⟨_,rfl⟩
 refine sp rfl<|sp rfl<|sP (.pointer (some ⟨gr,0,none⟩))<|sP (.pointer (some ⟨gr,2,none⟩))<|sS (.int .i64 (e:Int)) (qc 0 2 rfl rfl Tryz.underlying28)<|sS (.bool b1) (Quiet.pure (exec_int .eql _ _ _ .i64 _ _ _ rfl rfl rfl (int_eql _ _ _ _ _ (by rw [hb1]; exact decide_eq_decide.2 (by omega))))) ?_
 refine sG ?_
 cases b1
 ·rw [if_neg (of_decide_eq_false hb1.symm)]
  refine sU<|Sy.skip ?_
  exact Sy.retT0 rfl (RB gr sl at_ e R) (λ_ h=>h) (λ_=>by rfl)
 ·rw [if_pos (of_decide_eq_true hb1.symm)]
  refine sT<|Sy.region ?_
  refine sp rfl<|sp rfl<|sP (.pointer (some ⟨gr,0,none⟩))<|sP (.pointer (some ⟨gr,2,none⟩))<|sw 0 rfl (rrC sl at_ 120) (wO 2 28 (.int .i64 120) rfl) ?_
  refine Sy.nil ?_
  exact Sy.retT0 rfl (RB gr sl at_ 120 R) (λ_ h=>h) (λ_=>by rfl)
theorem num1_any (w0:Base) (gr:Nat) (sl:Value) (b:Byt) (at_ e:Nat) (R:Blocks) (hat:at_≤b.length) (he:e≤200) (hl:b.length≤70368744177664) (hv:BytR (rdW w0.world) sl b) (w:World) (hw:St w0 w (RB gr sl at_ e R)) :
  Calls Tryz.prog 73 #[ptr gr,.int .i64 1] w (Turns w0 (Rfd (numP 1) (λx v N=>v=.int .u64 (x:Int)∧x<256∧N=[]) gr sl b R at_ e)):=by
 refine Sy.enterT (args:=[ptr gr,.int .i64 1]) hw Tryz.func73 rfl kL ?_
 refine sC ?_
 refine sP (.int .u64 0) ?_
 refine sA ?_
 refine sp rfl<|sp rfl ?_
 refine Sy.callT (λw hw=>rawM_any w0.inn gr sl b at_ e 1 R hat he (by omega) hl hv w hw) (λu M hM=>?_)
 obtain ⟨x,a2,e2,N,q1,⟨q2,q3⟩,q4,q5,rfl⟩:=hM
 have hs:said x<256:=by
  have h1:=said_lt x
  rw [q3] at h1
  exact h1
 refine sS (.int .u64 ((said x:Nat):Int)) (qg (λw' hw=>saidR_any w' u x (by omega) (q2.byt.le (λg o v h=>rdC_world (w0:=w0.inn) hw (R:=N) (λb hb=>List.mem_cons_of_mem _ (List.mem_append_right _ hb)) g o v (.inr h)))))<|sp rfl ?_
 refine sG<|Sy.ret ?_
 exact Sy.retT1 (RB gr sl a2 e2 (R++[])) rfl (.inl (show _=_ by kernel_rfl)) (λ_ h=>h.less (((List.Sublist.refl R).append (List.nil_sublist N)).cons_cons _)) ⟨_,_,_,[],q1.bind (After.ret (said x) _),⟨rfl,hs,rfl⟩,q4,q5,rfl⟩
theorem smallM_any (lo hi:Nat) (w0:Base) (gr:Nat) (sl:Value) (b:Byt) (at_ e:Nat) (R:Blocks) (hat:at_≤b.length) (he:e≤200) (hl:b.length≤70368744177664) (hv:BytR (rdW w0.world) sl b) (w:World) (hw:St w0 w (RB gr sl at_ e R)) :
  Calls Tryz.prog 89 #[ptr gr,.int .i64 (lo:Int),.int .i64 (hi:Int)] w (Turns w0 (Rfd (smlP lo hi) (λx v N=>v=.int .i64 x∧N=[]) gr sl b R at_ e)):=by
 refine Sy.enterT (args:=[ptr gr,.int .i64 (lo:Int),.int .i64 (hi:Int)]) hw Tryz.func89 rfl kL ?_
 refine sC ?_
 refine sP (.int .i64 0) ?_
 refine sA ?_
 refine sp rfl ?_
 refine Sy.callT (λw hw=>num1_any w0.inn gr sl b at_ e R hat he hl hv w hw) (λu M hM=>?_)
 obtain ⟨n,a2,e2,N,q1,⟨rfl,q2,rfl⟩,q4,q5,rfl⟩:=hM
 rw [List.append_nil]
 refine sS (.int .i64 ((n:Nat):Int)) (Quiet.pure (λw=>conv_6i w _ _ _ n (by omega) rfl rfl))<|sp rfl ?_
 refine sG<|Sy.seq ?_
 obtain ⟨bd,hbd⟩:∃ z:Bool,z=!decide (lo≤n∧n≤hi):=⟨_,rfl⟩
 refine Sy.seq ?_
 refine cutC [(0,ptr gr),(7,.int .i64 (n:Int)),(18,.bool bd)] (RB gr sl a2 e2 R) ?_ ?_
 ·refine Sy.region ?_
  obtain ⟨b1,hb1⟩:∃ z:Bool,z=decide (n<lo):=⟨_,rfl⟩
  refine sp rfl<|sp rfl<|sS (.bool b1) (Quiet.pure (exec_int .lss _ _ _ .i64 _ _ _ rfl rfl rfl (int_lss _ _ _ _ _ (by rw [hb1]; exact decide_eq_decide.2 (by omega)))))<|sp rfl ?_
  cases b1
  ·obtain ⟨b2,hb2⟩:∃ z:Bool,z=decide (hi<n):=⟨_,rfl⟩
   have l1:¬ n<lo:=of_decide_eq_false hb1.symm
   obtain rfl:bd=b2:=by
    rw [hbd,hb2]
    by_cases h:hi<n
    ·rw [decide_eq_true h,decide_eq_false (by omega)]; rfl
    ·rw [decide_eq_false h,decide_eq_true (by omega)]; rfl
   refine sp rfl<|sp rfl<|sS (.bool bd) (Quiet.pure (exec_int .gtr _ _ _ .i64 _ _ _ rfl rfl rfl (int_gtr _ _ _ _ _ (by rw [hb2]; exact decide_eq_decide.2 (by omega)))))<|sP (.bool bd) ?_
   refine Sy.nil ?_
   exact meet (all_cons kR (all_cons kR (all_cons kR all_nil))) (λ_ h=>h)
  ·have l1:n<lo:=of_decide_eq_true hb1.symm
   obtain rfl:bd=true:=by rw [hbd,decide_eq_false (by omega)]; rfl
   refine sN<|sN<|sN<|sP (.bool true) ?_
   refine Sy.nil ?_
   exact meet (all_cons kR (all_cons kR (all_cons kR all_nil))) (λ_ h=>h)
 refine Sy.then_ ?_
 cases bd
 ·have l2:decide (lo≤n∧n≤hi)=true:=by
   cases h:decide (lo≤n∧n≤hi) with
   | true=>rfl
   | false=>rw [h] at hbd; cases hbd
  refine sU<|Sy.skip<|sB ?_
  refine sp rfl<|sp rfl ?_
  refine sG<|Sy.ret ?_
  exact Sy.retT1 (RB gr sl a2 e2 (R++[])) rfl (.inl (show _=_ by kernel_rfl)) (λ_ h=>by rw [List.append_nil]; exact h) ⟨(n:Int),_,_,[],q1.bind (by rw [l2]; exact After.ret _ _),⟨rfl,rfl⟩,q4,q5,rfl⟩
 ·have l2:decide (lo≤n∧n≤hi)=false:=by
   cases h:decide (lo≤n∧n≤hi) with
   | false=>rfl
   | true=>rw [h] at hbd; cases hbd
  obtain ⟨e3,he3⟩:∃ e3,e3=if e2=0 then 120 else e2:=⟨_,rfl⟩
  have l3:e3≠0:=by rw [he3]; split <;> omega
  refine sT<|Sy.region ?_
  refine sp rfl ?_
  refine Sy.callT (λw hw=>failM_any w0.inn gr sl a2 e2 R w hw) (λu M hM=>?_)
  subst hM
  rw [← he3]
  refine Sy.nil<|sB ?_
  refine sp rfl<|sp rfl ?_
  refine sG<|Sy.ret ?_
  exact Sy.retT1 (RB gr sl a2 e3 (R++[])) rfl (.inl (show _=_ by kernel_rfl)) (λ_ h=>by rw [List.append_nil]; exact h) ⟨(n:Int),_,_,[],q1.bind (by rw [l2]; exact After.mustN _ l3),⟨rfl,rfl⟩,q4,by rw [he3]; split <;> omega,rfl⟩
def okS (lo hi:Nat) (z:Int):Bool:=decide ((lo:Int)≤z) && decide (z≤(hi:Int))
theorem smallW_any (w0:Base) (gw:Nat) (bad:Bool) (s:Slc) (R:Blocks) (b:Byt) (lo hi:Nat) (z:Int) (hb:BS s b) (hl:b.length+1≤70368744177664) (w:World) (hw:St w0 w (WB gw bad s R)) :
  Calls Tryz.prog 86 #[ptr gw,.int .i64 z,.int .i64 (lo:Int),.int .i64 (hi:Int)] w (Turns w0 (Wd gw R (okS lo hi z) [octB z] 1 bad b)):=by
 refine Sy.enterT (args:=[ptr gw,.int .i64 z,.int .i64 (lo:Int),.int .i64 (hi:Int)]) hw Tryz.func86 rfl kL ?_
 obtain ⟨ok,hok⟩:∃ ok,ok=okS lo hi z:=⟨_,rfl⟩
 obtain ⟨b1,hb1⟩:∃ b1:Bool,b1=decide ((lo:Int)≤z):=⟨_,rfl⟩
 obtain ⟨b2,hb2⟩:∃ b2:Bool,b2=decide (z≤(hi:Int)):=⟨_,rfl⟩
 have e:ok=(b1 && b2):=by rw [hok,hb1,hb2]; rfl
 rw [← hok]
 refine Sy.seq ?_
 refine cutC [(0,ptr gw),(1,.int .i64 z)] (WB gw (bad || !ok) s R) ?_ ?_
 ·refine Sy.region ?_
  refine sp rfl<|sp rfl<|sp rfl<|sS (.bool b1) (Quiet.pure (exec_int .geq _ _ _ .i64 _ _ _ rfl rfl rfl (int_geq _ _ _ _ _ (by rw [hb1]))))<|sp rfl ?_
  cases b1
  case' false =>
   obtain rfl:ok=false:=e
   refine sN<|sN<|sN<|sP (.bool false) ?_
   refine Sy.callT (λw hw=>mustW_any w0.inn gw bad false s R w hw) (λu M hM=>?_)
  case' true =>
   obtain rfl:ok=b2:=e
   refine sp rfl<|sp rfl<|sS (.bool ok) (Quiet.pure (exec_int .leq _ _ _ .i64 _ _ _ rfl rfl rfl (int_leq _ _ _ _ _ (by rw [hb2]))))<|sP (.bool ok) ?_
   refine Sy.callT (λw hw=>mustW_any w0.inn gw bad ok s R w hw) (λu M hM=>?_)
  all_goals
   subst hM
   refine Sy.nil ?_
   exact meet (all_cons kR (all_cons kR all_nil)) (λ_ h=>h)
 refine Sy.then_<|Sy.region ?_
 refine sp rfl<|sp rfl<|sS (bv (octB z)) (Quiet.pure (λw=>conv_i8 w _ _ _ z rfl rfl)) ?_
 refine Sy.make kR 5 #[bv (octB z)] (λg=>.slice (some ⟨g,0,none⟩) 1 1) kF (λg1=>?_)
 refine Sy.permS (M:=WB gw (bad || !ok) s (R++[(g1,5,#[bv (octB z)])])) (List.Perm.of_eq (by simp only [List.append_assoc])) ?_
 refine Sy.callT (λw hw=>wrawW_any w0.inn gw (bad || !ok) s (R++[(g1,5,#[bv (octB z)])]) b (.slice (some ⟨g1,0,none⟩) 1 1) [octB z] hb ⟨_,_,_,rfl,rfl,Nat.le_refl _,by decide,λ_=>⟨g1,0,rfl,λj u hj=>.inr ⟨5,#[bv (octB z)],List.mem_append_right _ (List.mem_singleton.2 rfl),by
  cases j with
  | zero=>cases hj; rfl
  | succ j=>cases hj⟩⟩⟩ (by show _+1≤_; omega) w hw) (λv M hM=>?_)
 obtain ⟨r,hr,rfl⟩:=hM
 refine Sy.nil ?_
 have q:=(Wrote.must ok bad b).then_ (Wrote.raw [octB z] (bad || !ok) b (k:=1) (Nat.le_refl _))
 rw [Bool.and_true] at q
 exact Sy.retT0 rfl (WB gw (bad || !ok) r R) (λ_ h=>dropW h) (λ_=>⟨r,bad || !ok,b++[octB z],q,hr,rfl⟩)
end Wr
end
section
namespace Wr
open Go.RowKit Sy
set_option maxRecDepth 100000
set_option maxHeartbeats 4000000
theorem flat_key {l:List Byt} (h:∀ o∈l,o.length=32):(l.flatMap λk=>k).length=32*l.length:=by
 induction l with
 | nil=>rfl
 | cons o l ih=>rw [List.flatMap_cons,List.length_append,h o (List.mem_cons_self ..),ih (λx hx=>h x (List.mem_cons_of_mem _ hx)),List.length_cons]; omega
theorem sum_32 (l:List Byt):(l.map λ_=>32).sum=32*l.length:=by
 induction l with
 | nil=>rfl
 | cons o l ih=>rw [List.map_cons,List.sum_cons,ih,List.length_cons]; omega
theorem parW_any (w0:Base) (gw:Nat) (bad:Bool) (s:Slc) (R:Blocks) (b:Byt) (t:MPa) (v:Value) (h2:LstR (rdW w0.world) 32 repDG v t.keys) (hb:BS s b) (hlo:t.keys.length≤1000000000000) (hl:b.length+wtPA t≤70368744170000) (w:World) (hw:St w0 w (WB gw bad s R)) :
  Calls Tryz.prog 93 #[ptr gw,.agg #[.int .i64 t.t,v]] w (Turns w0 (Wd gw R (okPA t) (encPA t) (wtPA t) bad b)):=by
 have hcl:∀ o∈t.keys,o.length=32:=lst_all (q:=λo:Byt=>o.length=32) h2 (λcs x h=>h.2)
 obtain ⟨A,n,cp,rfl,k2,k3,k4,k5⟩:=h2
 have hwt:wtPA t=1+(9+32*t.keys.length):=by unfold wtPA; rw [sum_32]
 rw [hwt] at hl
 refine Sy.enterT (args:=[ptr gw,.agg #[.int .i64 t.t,.slice A n cp]]) hw Tryz.func93 rfl kL ?_
 refine sC ?_
 refine sM 40 #[.int .i64 t.t,.slice A n cp] (λg3=>?_)
 refine Sy.permS (M:=WB gw bad s (R++[(g3,40,#[.int .i64 t.t,.slice A n cp])])) (List.Perm.of_eq (by simp only [List.append_assoc])) ?_
 have c0:rdC w0.inn [(g3,40,#[.int .i64 t.t,.slice A n cp])] g3 0 (.int .i64 t.t):=.inr ⟨_,_,List.mem_singleton.2 rfl,rfl⟩
 have c1:rdC w0.inn [(g3,40,#[.int .i64 t.t,.slice A n cp])] g3 1 (.slice A n cp):=.inr ⟨_,_,List.mem_singleton.2 rfl,rfl⟩
 refine sA ?_
 refine sp rfl<|sP (.pointer (some ⟨g3,0,none⟩))<|sS (.int .i64 t.t) (cellC (R:=[(g3,40,#[.int .i64 t.t,.slice A n cp])]) c0 (λy hy=>inWB (List.mem_append_right R hy)) rfl Tryz.underlying3) ?_
 refine Sy.callT (λw hw=>smallW_any w0.inn gw bad s (R++[(g3,40,#[.int .i64 t.t,.slice A n cp])]) b 0 255 t.t hb (by omega) w hw) (λv M hM=>?_)
 obtain ⟨r1,bad1,b1,q1,q2,rfl⟩:=hM
 have hl1:=q1.len
 refine sA ?_
 refine sp rfl<|sP (.pointer (some ⟨g3,1,none⟩))<|sS (.slice A n cp) (cellC (R:=[(g3,40,#[.int .i64 t.t,.slice A n cp])]) c1 (λy hy=>inWB (List.mem_append_right R hy)) rfl Tryz.underlying38)<|sP (.int .i64 (n:Int)) ?_
 refine Sy.callT (λw hw=>manyW_any w0.inn gw bad1 r1 (R++[(g3,40,#[.int .i64 t.t,.slice A n cp])]) b1 n 16 (by omega) (by decide) q2 (by omega) w hw) (λv M hM=>?_)
 obtain ⟨s2,bad2,b2,q3,q4,rfl⟩:=hM
 have hl2:=q3.len
 refine sA ?_
 refine sP (.int .i64 0) ?_
 refine sG<|Sy.block ?_
 refine Sy.loopT (Y:=Slc) n (λi _=>[(0,ptr gw),(3,ptr g3),(4,.int .i64 (i:Int))]) (λ_ y=>WB gw bad2 y (R++[(g3,40,#[.int .i64 t.t,.slice A n cp])])) (λi y=>BS y (b2++(t.keys.take i).flatMap λk=>k)) s2 (by show BS s2 (b2++[]); rw [List.append_nil]; exact q4) (all_cons kR (all_cons kR (all_cons kR all_nil))) (λ_ h=>h) (λi y hi hy=>?_)
 refine Sy.seq<|sC ?_
 obtain ⟨b3,hb3⟩:∃ z:Bool,z=decide (i<n):=⟨_,rfl⟩
 refine sp rfl<|sP (.pointer (some ⟨g3,1,none⟩))<|sS (.slice A n cp) (cellC (R:=[(g3,40,#[.int .i64 t.t,.slice A n cp])]) c1 (λy hy=>inWB (List.mem_append_right R hy)) rfl Tryz.underlying38)<|sP (.int .i64 (n:Int))<|sS (.bool b3) (Quiet.pure (exec_int .lss _ _ _ .i64 _ _ _ rfl rfl rfl (int_lss _ _ _ _ _ (by rw [hb3]; exact decide_eq_decide.2 (by omega))))) ?_
 refine sG ?_
 have htl:((t.keys.take i).flatMap λk=>k).length≤32*i:=by
  rw [flat_key (λo ho=>hcl o (List.mem_of_mem_take ho)),List.length_take]; omega
 cases b3
 case' false =>
  have l3:¬ i<n:=of_decide_eq_false hb3.symm
  obtain rfl:i=n:=by omega
  rw [List.take_of_length_le (by omega)] at hy
  refine sU<|Sy.exit<|Sy.then_exit<|Sy.then_exit<|Sy.in_exit ?_
  have q:=q1.then_ (q3.then_ (Wrote.raw (t.keys.flatMap λk=>k) bad2 b2 (k:=32*t.keys.length) (by rw [flat_key hcl]; exact Nat.le_refl _)))
  rw [Bool.and_true, ← k2] at q
  rw [hwt]
  exact Sy.retT0 rfl (WB gw bad2 y R) (λ_ h=>dropW h) (λ_=>⟨y,bad2,_,q,hy,rfl⟩)
 have l3:i<n:=of_decide_eq_true hb3.symm
 obtain ⟨x,hx⟩:∃ x,t.keys[i]? = some x:=⟨_,List.getElem?_eq_getElem (by omega)⟩
 obtain ⟨g,o,hA,hq⟩:=k5 (by intro e; rw [e] at hx; cases hx)
 obtain ⟨cs,_,_,⟨rfl,x3⟩,hX⟩:=hq i x hx
 have d1:XAt (rdC w0.inn []) g (o+i*32) (x.map bv):=λj u hu=>.inl (hX j u hu)
 have m1:(x.map bv).length=32:=by rw [List.length_map,x3]
 have hyl:(b2++(t.keys.take i).flatMap λk=>k).length≤b2.length+32*i:=by rw [List.length_append]; omega
 refine sT<|Sy.skip<|Sy.then_<|Sy.seq<|Sy.block<|Sy.region ?_
 refine sp rfl<|sP (.pointer (some ⟨g3,1,none⟩))<|sS (.slice A n cp) (cellC (R:=[(g3,40,#[.int .i64 t.t,.slice A n cp])]) c1 (λy hy=>inWB (List.mem_append_right R hy)) rfl Tryz.underlying38)<|sp rfl<|sS (.pointer (some ⟨g,o+i*32,none⟩)) (Quiet.pure (exec_atO 38 _ _ _ A g o n cp i 32 .i64 hA rfl rfl rfl Tryz.underlying38 kF l3))<|sS (.agg (x.map bv).toArray) (rowC (R:=[]) d1 (λy hy=>by cases hy) m1 rfl Tryz.underlying220) ?_
 refine Sy.callT (λw hw=>digW_any w0.inn gw bad2 y (R++[(g3,40,#[.int .i64 t.t,.slice A n cp])]) _ x x3 hy (by omega) w hw) (λv M hM=>?_)
 obtain ⟨r5,hr5,rfl⟩:=hM
 refine Sy.nil<|Sy.in_<|Sy.then_<|Sy.region ?_
 refine sp rfl<|sS (.int .i64 ((i+1:Nat):Int)) (Quiet.pure (exec_int .add _ _ _ .i64 _ _ _ rfl rfl rfl (int_add _ _ _ _ _ ((wrap_i64 (by omega) (by omega)).trans (by omega)))))<|sp rfl ?_
 refine Sy.nil ?_
 have e:b2++((t.keys.take (i+1)).flatMap λk=>k)=b2++((t.keys.take i).flatMap λk=>k)++x:=by
  rw [List.take_add_one,hx,List.flatMap_append]
  show b2++(((t.keys.take i).flatMap λk=>k)++(x++[]))=_
  simp only [List.append_assoc,List.append_nil]
 exact Sy.againT r5 l3 (by show BS r5 (b2++((t.keys.take (i+1)).flatMap λk=>k)); rw [e]; exact hr5) (all_cons kR (all_cons kR (all_cons kR all_nil))) (λw h=>h)
theorem parM_any (w0:Base) (gr:Nat) (sl:Value) (b:Byt) (at_ e:Nat) (R:Blocks) (hat:at_≤b.length) (he:e≤200) (hl:b.length≤70368744177664) (hv:BytR (rdW w0.world) sl b) (w:World) (hw:St w0 w (RB gr sl at_ e R)) :
  Calls Tryz.prog 96 #[ptr gr] w (Turns w0 (Rfd rdPA (rowV 2 repPA) gr sl b R at_ e)):=by
 refine Sy.enterT (args:=[ptr gr]) hw Tryz.func96 rfl kL ?_
 refine sC ?_
 refine sM 40 #[.int .i64 0,.slice none 0 0] (λg2=>?_)
 refine Sy.movT (pre:=[(gr,168,rrC sl at_ e)]) (T:=R) ?_
 refine sA ?_
 refine sM 40 #[.int .i64 0,.slice none 0 0] (λg3=>?_)
 refine Sy.movT (pre:=[(gr,168,rrC sl at_ e),(g2,40,#[.int .i64 0,.slice none 0 0])]) (T:=R) ?_
 refine sA ?_
 refine sp rfl ?_
 refine Sy.callT (λw hw=>smallM_any 0 255 w0.inn gr sl b at_ e ((g2,40,#[.int .i64 0,.slice none 0 0])::(g3,40,#[.int .i64 0,.slice none 0 0])::R) hat he hl hv w hw) (λu M hM=>?_)
 obtain ⟨x0,a1,e1,N1,p1,⟨rfl,rfl⟩,p3,p4,rfl⟩:=hM
 rw [sml_oct] at p1
 rw [List.append_nil]
 refine sP (.pointer (some ⟨g3,0,none⟩))<|sw 2 rfl #[.int .i64 x0,.slice none 0 0] (wO 0 3 (.int .i64 x0) rfl) ?_
 refine sA ?_
 refine sp rfl ?_
 refine Sy.callT (λw hw=>manyM_any w0.inn gr sl b a1 e1 16 ((g2,40,#[.int .i64 0,.slice none 0 0])::(g3,40,#[.int .i64 x0,.slice none 0 0])::R) p3 p4 (by decide) hl hv w hw) (λu M hM=>?_)
 obtain ⟨n,a2,e2,N2,q1,⟨rfl,q2,rfl⟩,q3,q4,rfl⟩:=hM
 rw [List.append_nil]
 refine sp rfl ?_
 refine sG<|Sy.seq<|sC ?_
 refine sP (.int .i64 0) ?_
 refine sG<|Sy.block ?_
 refine Sy.loopT (Y:=RLst Byt) n (λi _=>[(0,ptr gr),(2,ptr g2),(3,ptr g3),(4,.int .i64 (n:Int)),(5,.int .i64 (i:Int))]) (λ_ y=>[(gr,168,rrC sl y.at_ y.e),(g2,40,#[.int .i64 0,.slice none 0 0]),(g3,40,#[.int .i64 x0,y.r.v])]++(y.r.bl++R)) (λi y=>After (repP (takeP 32) i) ⟨b.drop a2,e2⟩ y.xs ⟨b.drop y.at_,y.e⟩∧y.at_≤b.length∧y.e≤200∧y.xs.length=i∧RowsOk 220 32 repDG y.r [] y.xs) ⟨a2,e2,[],nilS⟩ ⟨After.ret [] _,q3,q4,rfl,RowsOk.nil⟩ (all_cons kR (all_cons kR (all_cons kR (all_cons kR (all_cons kR all_nil))))) (λ_ h=>h) (λi y hi hy=>?_)
 obtain ⟨a,f,xs,r⟩:=y
 obtain ⟨y1,y2,y3,y4,y5⟩:=hy
 dsimp only at y1 y2 y3 y4 y5 ⊢
 obtain ⟨b3,hb3⟩:∃ z:Bool,z=decide (i<n∧f=0):=⟨_,rfl⟩
 refine Sy.seq<|Sy.seq ?_
 refine cutC [(0,ptr gr),(2,ptr g2),(3,ptr g3),(4,.int .i64 (n:Int)),(5,.int .i64 (i:Int)),(17,.bool b3)] ([(gr,168,rrC sl a f),(g2,40,#[.int .i64 0,.slice none 0 0]),(g3,40,#[.int .i64 x0,r.v])]++(r.bl++R)) ?_ ?_
 ·refine Sy.region ?_
  obtain ⟨b1,hb1⟩:∃ z:Bool,z=decide (i<n):=⟨_,rfl⟩
  refine sp rfl<|sp rfl<|sS (.bool b1) (Quiet.pure (exec_int .lss _ _ _ .i64 _ _ _ rfl rfl rfl (int_lss _ _ _ _ _ (by rw [hb1]; exact decide_eq_decide.2 (by omega)))))<|sp rfl ?_
  cases b1
  ·obtain rfl:b3=false:=by rw [hb3]; exact decide_eq_false (λh=>of_decide_eq_false hb1.symm h.1)
   refine sN<|sN<|sP (.bool false) ?_
   refine Sy.nil ?_
   exact meet (all_cons kR (all_cons kR (all_cons kR (all_cons kR (all_cons kR (all_cons kR all_nil)))))) (λ_ h=>h)
  ·obtain ⟨b2,hb2⟩:∃ z:Bool,z=decide (f=0):=⟨_,rfl⟩
   obtain rfl:b3=b2:=by rw [hb3,hb2]; exact decide_eq_decide.2 ⟨λh=>h.2,λh=>⟨of_decide_eq_true hb1.symm,h⟩⟩
   refine sp rfl<|sS (.bool b3) (qg (λw hw=>by rw [hb2]; exact okM_any w0.inn gr sl a f (List.mem_cons_self ..) w hw))<|sP (.bool b3) ?_
   refine Sy.nil ?_
   exact meet (all_cons kR (all_cons kR (all_cons kR (all_cons kR (all_cons kR (all_cons kR all_nil)))))) (λ_ h=>h)
 refine Sy.then_ ?_
 cases b3
 case' false =>
  have l3:¬ (i<n∧f=0):=of_decide_eq_false hb3.symm
  have hA:After (repP (takeP 32) n) ⟨b.drop a2,e2⟩ xs ⟨b.drop a,f⟩:=by
   by_cases h:i<n
   ·exact y1.stop (λh0=>l3 ⟨h,h0⟩) hi
   ·obtain rfl:i=n:=by omega
    exact y1
  have hrc:r.v.oneCell'=true:=by obtain ⟨ys,h1,_⟩:=y5; exact h1.cells.2
  have hon:∀ u∈[Value.int .i64 x0,r.v],u.oneCell'=true:=λu hu=>by
   rcases List.mem_cons.1 hu with rfl | hu
   ·rfl
   ·rw [List.mem_singleton.1 hu]; exact hrc
  refine sU<|Sy.exit<|Sy.then_exit<|Sy.then_exit<|Sy.in_exit<|Sy.then_<|sC ?_
  refine sS (.agg #[.int .i64 x0,r.v]) (qk 2 0 2 rfl rfl Tryz.underlying40)<|sw 1 rfl #[.int .i64 x0,r.v] (Writes.row 40 [.int .i64 x0,r.v] 2 _ _ rfl kR kR kR rfl (by kernel_rfl) hon) ?_
  refine sG<|Sy.ret ?_
  exact Sy.retT1 (RB gr sl a f (R++r.bl)) rfl (.inl (Sy.Res.cell (ty':=40) g2 1 #[.int .i64 x0,r.v] _ (by kernel_rfl) rfl Tryz.underlying40 rfl (by kernel_rfl) rfl)) (λ_ h=>Sy.St.parts (L:=[(gr,168,rrC sl a f),(g2,40,#[.int .i64 x0,r.v]),(g3,40,#[.int .i64 x0,r.v])]++(r.bl++R)) (ls:=[[(gr,168,rrC sl a f)],[(g2,40,#[.int .i64 x0,r.v])],[(g3,40,#[.int .i64 x0,r.v])],r.bl,R]) (ms:=[[(gr,168,rrC sl a f)],R,r.bl]) [[(g2,40,#[.int .i64 x0,r.v])],[(g3,40,#[.int .i64 x0,r.v])]] [0,4,3,1,2] (by kernel_rfl) (by rfl) (by simp) (by simp) h) ⟨⟨x0,xs⟩,a,f,r.bl,p1.bind ((q1.bind hA).bind (After.ret _ _)),⟨_,rfl,rfl,hon,⟨r.v,rfl,RowsOk.lst (rep:=repDG) (N:=[]) monoDG y5⟩⟩,y2,y3,rfl⟩
 obtain ⟨l1,l2⟩:i<n∧f=0:=of_decide_eq_true hb3.symm
 obtain ⟨ys,t1,t2,t3⟩:=y5
 refine sT<|Sy.skip<|Sy.then_<|Sy.seq<|Sy.block ?_
 refine Sy.regionD (λj=>j == 3 || j == 5 || j == 7) kR ?_
 refine sb 0 rfl (.pointer (some ⟨g3,1,none⟩))<|sa 2 rfl rfl ?_
 refine Sy.joinG (T:=Byt×Nat×Nat×Nat) (λy=>[(0,ptr gr),(2,ptr g2),(3,ptr g3),(4,.int .i64 (n:Int)),(5,.int .i64 (i:Int)),(21,r.v),(23,.agg (y.1.map bv).toArray),(24,.slice (some ⟨y.2.2.2,0,none⟩) 1 1)]) (λy=>[(gr,168,rrC sl y.2.1 y.2.2.1),(g2,40,#[.int .i64 0,.slice none 0 0]),(g3,40,#[.int .i64 x0,r.v]),(y.2.2.2,220,(y.1.map bv).toArray)]++(r.bl++R)) (λy=>After (takeP 32) ⟨b.drop a,f⟩ y.1 ⟨b.drop y.2.1,y.2.2.1⟩∧y.1.length=32∧y.2.1≤b.length∧y.2.2.1≤200) 3 #[true,true,true,true,true,false,false,false] (λy hy=>?_) (λk=>?_)
 case refine_2 =>
  refine Sy.anyOf [1,3] (by kernel_rfl) (by decide) (Sy.each2 ?_ ?_)
  ·refine Sy.oneQuiet rfl (by kernel_rfl) r.v (qc 2 1 rfl rfl Tryz.underlying38) ?_
   refine Sy.soleD 3 rfl (λQ2 hq2=>?_)
   refine Sy.callT (λw hw=>digM_any w0.inn gr sl b a f ((g2,40,#[.int .i64 0,.slice none 0 0])::(g3,40,#[.int .i64 x0,r.v])::(r.bl++R)) y2 y3 hl hv w hw) (λu M hM=>?_)
   obtain ⟨x2,a4,e4,N4,s1,⟨rfl,s2,rfl⟩,s3,s4,rfl⟩:=hM
   rw [List.append_nil ((g2,40,#[.int .i64 0,.slice none 0 0])::(g3,40,#[.int .i64 x0,r.v])::(r.bl++R))]
   refine hq2 _ _ ?_
   refine Sy.makeD 4 rfl kR kR 220 (x2.map bv).toArray (λg=>.slice (some ⟨g,0,none⟩) 1 1) (Makes.one 38 220 _ _ 32 _ (x2.map bv) rfl kR Tryz.underlying38 info_key rfl rfl (by rw [List.length_map,s2]) (by decide) (by decide)) (λg7=>?_)
   exact leafE k (x2,a4,e4,g7) ⟨s1,s2,s3,s4⟩ rfl (all_cons kR (all_cons kR (all_cons kR (all_cons kR (all_cons kR (all_cons kR (all_cons kR (all_cons kR all_nil)))))))) (Sy.mov_perm (pre:=[(gr,168,rrC sl a4 e4),(g2,40,#[.int .i64 0,.slice none 0 0]),(g3,40,#[.int .i64 x0,r.v])]) (T:=r.bl++R))
  ·refine oneE rfl (by kernel_rfl) rfl (λQ2 hq2=>?_)
   refine Sy.callT (λw hw=>digM_any w0.inn gr sl b a f ((g2,40,#[.int .i64 0,.slice none 0 0])::(g3,40,#[.int .i64 x0,r.v])::(r.bl++R)) y2 y3 hl hv w hw) (λu M hM=>?_)
   obtain ⟨x2,a4,e4,N4,s1,⟨rfl,s2,rfl⟩,s3,s4,rfl⟩:=hM
   rw [List.append_nil ((g2,40,#[.int .i64 0,.slice none 0 0])::(g3,40,#[.int .i64 x0,r.v])::(r.bl++R))]
   refine hq2 _ _ ?_
   refine Sy.anyOf [1,4] (by kernel_rfl) (by decide) (Sy.each2 ?_ ?_)
   ·refine Sy.oneQuiet rfl (by kernel_rfl) r.v (qc 2 1 rfl rfl Tryz.underlying38) ?_
    refine Sy.makeD 4 rfl kR kR 220 (x2.map bv).toArray (λg=>.slice (some ⟨g,0,none⟩) 1 1) (Makes.one 38 220 _ _ 32 _ (x2.map bv) rfl kR Tryz.underlying38 info_key rfl rfl (by rw [List.length_map,s2]) (by decide) (by decide)) (λg7=>?_)
    exact leafE k (x2,a4,e4,g7) ⟨s1,s2,s3,s4⟩ rfl (all_cons kR (all_cons kR (all_cons kR (all_cons kR (all_cons kR (all_cons kR (all_cons kR (all_cons kR all_nil)))))))) (Sy.mov_perm (pre:=[(gr,168,rrC sl a4 e4),(g2,40,#[.int .i64 0,.slice none 0 0]),(g3,40,#[.int .i64 x0,r.v])]) (T:=r.bl++R))
   ·refine Sy.oneMake rfl (by kernel_rfl) 220 (x2.map bv).toArray (λg=>.slice (some ⟨g,0,none⟩) 1 1) (Makes.one 38 220 _ _ 32 _ (x2.map bv) rfl kR Tryz.underlying38 info_key rfl rfl (by rw [List.length_map,s2]) (by decide) (by decide)) (λg7=>?_)
    refine Sy.anyOf [1] (by kernel_rfl) (by decide) (Sy.each1 ?_)
    refine Sy.oneQuiet rfl (by kernel_rfl) r.v (qc 2 1 rfl rfl Tryz.underlying38) ?_
    exact leafE k (x2,a4,e4,g7) ⟨s1,s2,s3,s4⟩ rfl (all_cons kR (all_cons kR (all_cons kR (all_cons kR (all_cons kR (all_cons kR (all_cons kR (all_cons kR all_nil)))))))) (Sy.mov_perm (pre:=[(gr,168,rrC sl a4 e4),(g2,40,#[.int .i64 0,.slice none 0 0]),(g3,40,#[.int .i64 x0,r.v])]) (T:=r.bl++R))
 obtain ⟨x2,a4,e4,g7⟩:=y
 obtain ⟨s1,s2,s3,s4⟩:=hy
 dsimp only at s1 s2 s3 s4 ⊢
 have m2:(x2.map bv).length=32:=by rw [List.length_map,s2]
 refine Sy.soleD 5 rfl (λQ2 hq2=>?_)
 refine Sy.appendR (pre:=[(gr,168,rrC sl a4 e4),(g2,40,#[.int .i64 0,.slice none 0 0]),(g3,40,#[.int .i64 x0,r.v]),(g7,220,(x2.map bv).toArray)]) (T:=R) kR 38 220 _ _ 32 32 Tryz.underlying38 info_key rfl rfl rfl rfl (by decide) _ _ rfl t1 kR (x2.map bv) m2 (ones_bv x2) 3 g7 220 kR kR (by omega) (by simp only [maxLen]; omega) (λr' hr'=>?_)
 refine hq2 _ _ ?_
 refine sb 6 rfl (.pointer (some ⟨g3,1,none⟩))<|sx 7 rfl 2 rfl #[.int .i64 x0,r'.v] (Writes.one 1 38 r'.v _ _ rfl kR kR kR hr'.cells.1 hr'.cells.2 (Nat.lt_succ_self 1) kR) ?_
 refine sE ?_
 refine Sy.in_<|Sy.then_<|Sy.region ?_
 refine sp rfl<|sS (.int .i64 ((i+1:Nat):Int)) (Quiet.pure (exec_int .add _ _ _ .i64 _ _ _ rfl rfl rfl (int_add _ _ _ _ _ ((wrap_i64 (by omega) (by omega)).trans (by omega)))))<|sp rfl ?_
 refine Sy.nil ?_
 exact Sy.againT ⟨a4,e4,xs++[x2],r'⟩ l1 ⟨y1.snoc s1,s3,s4,by show (xs++[_]).length=_; rw [List.length_append,y4]; rfl,RowsOk.add (rep:=repDG) t2 t3 hr' ⟨rfl,s2⟩⟩ (all_cons kR (all_cons kR (all_cons kR (all_cons kR (all_cons kR all_nil))))) (λw h=>Sy.St.parts (L:=[(gr,168,rrC sl a4 e4),(g2,40,#[.int .i64 0,.slice none 0 0]),(g3,40,#[.int .i64 x0,r'.v]),(g7,220,(x2.map bv).toArray)]++(r'.bl++R)) (ls:=[[(gr,168,rrC sl a4 e4),(g2,40,#[.int .i64 0,.slice none 0 0]),(g3,40,#[.int .i64 x0,r'.v])],[(g7,220,(x2.map bv).toArray)],r'.bl++R]) (ms:=[[(gr,168,rrC sl a4 e4),(g2,40,#[.int .i64 0,.slice none 0 0]),(g3,40,#[.int .i64 x0,r'.v])],r'.bl++R]) [[(g7,220,(x2.map bv).toArray)]] [0,2,1] (by kernel_rfl) (by rfl) (by simp) (by simp) h)
end Wr
end
section
namespace Wr
open Go.RowKit Sy
set_option maxRecDepth 100000
set_option maxHeartbeats 4000000
def zPA:MPa:=⟨0,[]⟩
theorem zPA_rep (C:Rdr):repPA C ([Value.int .i64 0]++[Value.slice none 0 0]) zPA:=⟨_,rfl,none,0,0,rfl,rfl,Nat.le_refl _,Nat.zero_le _,λh=>(h rfl).elim⟩
theorem rd_keys {raw r:Byt} {t:MPa} (h:rdPA raw=some (t,r)):t.keys.length≤16:=by
 unfold rdPA at h
 cases hp:octP raw with
 | none=>rw [bind_none hp] at h; cases h
 | some u =>
  obtain ⟨n,r⟩:=u
  rw [bind_some hp] at h
  cases hq:listP 16 (takeP 32) r with
  | none=>rw [bind_none hq] at h; cases h
  | some u =>
   obtain ⟨xs,r2⟩:=u
   rw [bind_some hq] at h
   have:=lst_le hq
   cases h
   exact this
end Wr
end
section
namespace Wr
open Go.RowKit Sy
set_option maxRecDepth 100000
set_option maxHeartbeats 4000000
theorem ByN.nil:ByN [] (.slice none 0 0) []:=⟨none,0,0,rfl,BS.nil⟩
theorem textR_any (w:World) (v:Value) (x:Byt) (hv:BytR (rdW w) v x) (hl:x.length≤70368744170000):Calls Tryz.prog 184 #[v] w (GetsN w (ByN (varB x.length++x))):=by
 have hv0:=hv
 obtain ⟨A,n,cp,rfl,h2,h3,h4,h5⟩:=hv
 have hn9:=varB_len x.length
 refine Sy.enter (args:=[.slice A n cp]) Tryz.func184 rfl kL ?_
 refine sC ?_
 refine sP (.slice none 0 0) ?_
 refine sA ?_
 refine sp rfl<|sP (.int .i64 (n:Int))<|sS (.int .u64 (n:Int)) (Quiet.pure (λw=>conv_i6 w _ _ _ n (by omega) rfl rfl)) ?_
 refine Sy.callN kR 127 #[.int .u64 (n:Int)] kF _ (λw' _=>varR_any w' n (by omega)) (λu M hM=>?_)
 obtain ⟨A1,n1,c1,rfl,hs⟩:=hM
 refine sp rfl ?_
 refine sA ?_
 refine sp rfl<|sp rfl ?_
 refine Sy.permS (M:=[]++(M++[])) (List.Perm.of_eq (by simp)) ?_
 refine Sy.appendM (pre:=[]) (r:=⟨.slice A1 n1 c1,M⟩) (T:=[]) kR 27 5 _ _ 1 1 Tryz.underlying27 Cu.info_u8 rfl rfl rfl rfl (by decide) _ _ rfl hs kR (byL_one x) (byL_oneC x) A n cp (by rw [byL_len,h2]) h3 kR (λr=>BytR.from (w0:=Base.of w) (R:=[]) (hv0.le rdW_base) (λy hy=>by cases hy)) (by rw [byL_len, ← h2]; omega) (by rw [byL_len, ← h2]; simp only [maxLen]; omega) (λr hr=>?_)
 have hr':BS r (varB x.length++x):=by
  show r.Is 5 1 _
  rw [byL_app,h2]
  exact hr
 refine sp rfl ?_
 refine sA ?_
 refine sp rfl<|sp rfl ?_
 refine sG<|Sy.ret ?_
 exact Sy.retGM r.bl rfl (.inl (show _=_ by kernel_rfl)) (λ_ h=>h.less (List.sublist_append_left _ _)) hr'.as
def gtN (b:Byt) (at_ e most:Nat):Nat×Nat×Byt:=if (gvN b at_ e most).2.1≠0 then ((gvN b at_ e most).1,(gvN b at_ e most).2.1,[]) else if b.length - (gvN b at_ e most).1<(gvN b at_ e most).2.2 then (at_,110,[]) else ((gvN b at_ e most).1+(gvN b at_ e most).2.2,0,(b.drop (gvN b at_ e most).1).take (gvN b at_ e most).2.2)
theorem gtN_after (b:Byt) (at_ e most:Nat) (h:at_≤b.length) (he:e≤200):After (textP most) ⟨b.drop at_,e⟩ (gtN b at_ e most).2.2 ⟨b.drop (gtN b at_ e most).1,(gtN b at_ e most).2.1⟩∧(gtN b at_ e most).1≤b.length∧(gtN b at_ e most).2.1≤200:=by
 obtain ⟨q1,q2,q3,q4⟩:=gvN_after b at_ e most h he
 unfold gtN
 obtain ⟨f,hf⟩:∃ f,f=gvN b at_ e most:=⟨_,rfl⟩
 rw [← hf] at q1 q2 q3 q4 ⊢
 by_cases h1:f.2.1≠0
 ·rw [if_pos h1]
  refine ⟨q1.bind (q:=takeP) ⟨λ_=>h1,λy r h0 _=>(h1 h0).elim,λh0 _=>(h1 h0).elim⟩,q2,q3⟩
 ·have h0:f.2.1=0:=Decidable.of_not_not h1
  rw [if_neg h1]
  by_cases h2:b.length - f.1<f.2.2
  ·rw [if_pos h2]
   refine ⟨q1.bind (q:=takeP) ⟨λ_=>(show (110:Nat)≠0 by decide),λy r _ hp=>?_,λ_ _=>(show (110:Nat)≠0 by decide)⟩,h,by show (110:Nat)≤200; decide⟩
   unfold takeP at hp
   rw [if_neg (by show ¬ f.2.2≤(b.drop f.1).length; rw [List.length_drop]; omega)] at hp
   cases hp
  ·rw [if_neg h2]
   refine ⟨q1.bind (q:=takeP) ⟨λh=>(h h0).elim,λy r _ hp=>?_,λ_ hp=>?_⟩,by show f.1+f.2.2≤_; omega,Nat.zero_le _⟩
   ·unfold takeP at hp
    rw [if_pos (by show f.2.2≤(b.drop f.1).length; rw [List.length_drop]; omega)] at hp
    cases hp
    exact ⟨rfl,by rw [List.drop_drop]⟩
   ·unfold takeP at hp
    rw [if_pos (by show f.2.2≤(b.drop f.1).length; rw [List.length_drop]; omega)] at hp
    cases hp
theorem getTextR_any (w:World) (sl:Value) (b:Byt) (at_ e most:Nat) (hat:at_≤b.length) (he:e≤200) (hmo:most<1000000) (hl:b.length≤70368744177664) (hv:BytR (rdW w) sl b) :
  Calls Tryz.prog 188 #[rrV sl at_ e,.int .i64 (most:Int)] w (GetsN w (λv M=>∃ u,v=.tuple #[rrV sl (gtN b at_ e most).1 (gtN b at_ e most).2.1,u]∧ByN (gtN b at_ e most).2.2 u M)):=by
 have hv0:=hv
 obtain ⟨A,m,cp,rfl,h2,h3,h4,h5⟩:=hv
 obtain ⟨q1,q2,q3,q4⟩:=gvN_after b at_ e most hat he
 unfold gtN
 obtain ⟨f,hf⟩:∃ f,f=gvN b at_ e most:=⟨_,rfl⟩
 rw [← hf] at q1 q2 q3 q4 ⊢
 obtain ⟨T,hT⟩:∃ T,T=(if f.2.1≠0 then (f.1,f.2.1,([]:Byt)) else if b.length - f.1<f.2.2 then (at_,110,[]) else (f.1+f.2.2,0,(b.drop f.1).take f.2.2)):=⟨_,rfl⟩
 rw [← hT]
 refine Sy.enter (args:=[rrV (.slice A m cp) at_ e,.int .i64 (most:Int)]) Tryz.func188 rfl kL ?_
 refine sC ?_
 refine sM 166 (rrC (.slice A m cp) at_ e) (λg2=>?_)
 refine sM 166 (rrC (.slice none 0 0) 0 0) (λg4=>?_)
 refine sP (.slice none 0 0) ?_
 refine sA ?_
 refine sS (rrV (.slice A m cp) at_ e) (qk 0 0 3 rfl rfl Tryz.underlying166)<|sp rfl<|sS (.int .u64 (most:Int)) (Quiet.pure (λw=>conv_i6 w _ _ _ most (by omega) rfl rfl))<|sp rfl<|sS (.bool false) (Quiet.pure (exec_int .lss _ _ _ .i64 _ _ _ rfl rfl rfl (int_lss _ _ _ _ _ (decide_eq_false (by omega)))))<|sS (.tuple #[rrV (.slice A m cp) f.1 f.2.1,.int .u64 ((f.2.2:Nat):Int)]) (qg (λw' hw=>by rw [hf]; exact getVarR_any (e:=e) w' (.slice A m cp) b at_ most hat (by omega) hl (hv0.at hw)))<|sp rfl<|sp rfl<|sp rfl ?_
 refine sM 166 (rrC (.slice none 0 0) 0 0) (λg6=>?_)
 refine sw 2 rfl (rrC (.slice A m cp) f.1 f.2.1) (wA rfl)<|sp rfl ?_
 refine sG<|Sy.seq<|sC ?_
 obtain ⟨b1,hb1⟩:∃ z:Bool,z=decide (f.2.1≠0):=⟨_,rfl⟩
 refine sP (.pointer (some ⟨g6,2,none⟩))<|sS (.int .i64 (f.2.1:Int)) (qc 2 2 rfl rfl Tryz.underlying28)<|sS (.bool b1) (Quiet.pure (exec_int .neq _ _ _ .i64 _ _ _ rfl rfl rfl (int_neq _ _ _ _ _ (by rw [hb1]; exact decide_eq_decide.2 (by omega))))) ?_
 refine sG ?_
 cases b1
 case' true =>
  have l1:f.2.1≠0:=of_decide_eq_true hb1.symm
  rw [if_pos l1] at hT
  subst hT
  refine sT<|sC ?_
  refine sS (rrV (.slice A m cp) f.1 f.2.1) (qk 2 0 3 rfl rfl Tryz.underlying166)<|sw 1 rfl (rrC (.slice A m cp) f.1 f.2.1) (wA rfl)<|sP (.slice none 0 0) ?_
  refine sG<|Sy.ret<|Sy.then_ret ?_
  exact Sy.retGM2 [] rfl (.inl (Sy.Res.cell (ty':=166) g4 1 (rrC (.slice A m cp) f.1 f.2.1) _ (by kernel_rfl) rfl Tryz.underlying166 rfl (by kernel_rfl) rfl)) (.inl (show _=_ by kernel_rfl)) (λ_ h=>h.none) ⟨_,rfl,ByN.nil⟩
 have l1:¬ f.2.1≠0:=of_decide_eq_false hb1.symm
 have l0:f.2.1=0:=Decidable.of_not_not l1
 rw [if_neg l1] at hT
 refine sU<|Sy.skip<|Sy.then_<|Sy.seq<|sC ?_
 obtain ⟨b2,hb2⟩:∃ z:Bool,z=decide (m - f.1<f.2.2):=⟨_,rfl⟩
 refine sp rfl<|sP (.pointer (some ⟨g6,0,none⟩))<|sS (.slice A m cp) (qc 2 0 rfl rfl Tryz.underlying27)<|sP (.int .i64 (m:Int))<|sP (.pointer (some ⟨g6,1,none⟩))<|sS (.int .i64 (f.1:Int)) (qc 2 1 rfl rfl Tryz.underlying3)<|sS (.int .i64 ((m - f.1:Nat):Int)) (Quiet.pure (exec_int .sub _ _ _ .i64 _ _ _ rfl rfl rfl (int_sub _ _ _ _ _ ((wrap_i64 (by omega) (by omega)).trans (by omega)))))<|sS (.int .u64 ((m - f.1:Nat):Int)) (Quiet.pure (λw=>conv_i6 w _ _ _ (m - f.1) (by omega) rfl rfl))<|sS (.bool b2) (Quiet.pure (exec_int .gtr _ _ _ .u64 _ _ _ rfl rfl rfl (int_gtr _ _ _ _ _ (by rw [hb2]; exact decide_eq_decide.2 (by omega))))) ?_
 refine sG ?_
 cases b2
 case' true =>
  have l2:m - f.1<f.2.2:=of_decide_eq_true hb2.symm
  rw [if_pos (by omega)] at hT
  subst hT
  refine sT<|sC ?_
  refine sP (.pointer (some ⟨g2,2,none⟩))<|sw 0 rfl (rrC (.slice A m cp) at_ 110) (wO 2 28 (.int .i64 110) rfl) ?_
  refine sA ?_
  refine sS (rrV (.slice A m cp) at_ 110) (qk 0 0 3 rfl rfl Tryz.underlying166)<|sw 1 rfl (rrC (.slice A m cp) at_ 110) (wA rfl)<|sP (.slice none 0 0) ?_
  refine sG<|Sy.ret<|Sy.then_ret ?_
  exact Sy.retGM2 [] rfl (.inl (Sy.Res.cell (ty':=166) g4 1 (rrC (.slice A m cp) at_ 110) _ (by kernel_rfl) rfl Tryz.underlying166 rfl (by kernel_rfl) rfl)) (.inl (show _=_ by kernel_rfl)) (λ_ h=>h.none) ⟨_,rfl,ByN.nil⟩
 have l2:¬ m - f.1<f.2.2:=of_decide_eq_false hb2.symm
 rw [if_neg (by omega)] at hT
 subst hT
 have er:rawN b f.1 f.2.1 f.2.2=(f.1+f.2.2,0,(b.drop f.1).take f.2.2):=by
  unfold rawN
  rw [if_neg l1,if_neg (by omega)]
 refine sU<|Sy.skip<|sB ?_
 refine sS (rrV (.slice A m cp) f.1 f.2.1) (qk 2 0 3 rfl rfl Tryz.underlying166)<|sp rfl<|sS (.int .i64 ((f.2.2:Nat):Int)) (Quiet.pure (λw=>conv_6i w _ _ _ f.2.2 (by omega) rfl rfl)) ?_
 refine Sy.callN kR 155 #[rrV (.slice A m cp) f.1 f.2.1,.int .i64 ((f.2.2:Nat):Int)] kF _ (λw' hw=>rawR_any w' (.slice A m cp) b f.1 f.2.1 f.2.2 q2 (by omega) hl (hv0.at hw)) (λu M hM=>?_)
 rw [er] at hM
 obtain ⟨u,rfl,hu⟩:=hM
 have hub:=hu.byt
 obtain ⟨A2,n2,c2,rfl,_⟩:=hub
 refine sp rfl<|sp rfl<|sw 1 rfl (rrC (.slice A m cp) (f.1+f.2.2) 0) (wA rfl)<|sp rfl ?_
 refine sG<|Sy.ret ?_
 exact Sy.retGM2 M rfl (.inl (Sy.Res.cell (ty':=166) g4 1 (rrC (.slice A m cp) (f.1+f.2.2) 0) _ (by kernel_rfl) rfl Tryz.underlying166 rfl (by kernel_rfl) rfl)) (.inl (show _=_ by kernel_rfl)) (λ_ h=>h.less (List.sublist_append_right [(g2,166,rrC (.slice A m cp) at_ e),(g4,166,rrC (.slice A m cp) (f.1+f.2.2) 0),(g6,166,rrC (.slice A m cp) f.1 f.2.1)] M)) ⟨_,rfl,hu⟩
theorem textM_any (most:Nat) (hmo:most<1000000) (w0:Base) (gr:Nat) (sl:Value) (b:Byt) (at_ e:Nat) (R:Blocks) (hat:at_≤b.length) (he:e≤200) (hl:b.length≤70368744177664) (hv:BytR (rdW w0.world) sl b) (w:World) (hw:St w0 w (RB gr sl at_ e R)) :
  Calls Tryz.prog 139 #[ptr gr,.int .i64 (most:Int)] w (Turns w0 (Rfd (textP most) (λx v N=>ByN x v N) gr sl b R at_ e)):=by
 obtain ⟨q1,q2,q3⟩:=gtN_after b at_ e most hat he
 have hv0:=hv
 obtain ⟨A,m,cp,rfl,h2,h3,h4,h5⟩:=hv
 obtain ⟨f,hf⟩:∃ f,f=gtN b at_ e most:=⟨_,rfl⟩
 rw [← hf] at q1 q2 q3
 refine Sy.enterT (args:=[ptr gr,.int .i64 (most:Int)]) hw Tryz.func139 rfl kL ?_
 refine sC ?_
 refine sP (.slice none 0 0) ?_
 refine sA ?_
 refine sp rfl<|sp rfl<|sP (.pointer (some ⟨gr,0,none⟩))<|sS (rrV (.slice A m cp) at_ e) (qk 0 0 3 rfl rfl Tryz.underlying166)<|sp rfl ?_
 refine Sy.callN kR 188 #[rrV (.slice A m cp) at_ e,.int .i64 (most:Int)] kF _ (λw' hw=>getTextR_any w' (.slice A m cp) b at_ e most hat he hmo hl (hv0.le (λg o u hu=>rdC_world (w0:=w0.inn) (R:=[]) hw (λ_ h=>by cases h) g o u (.inl hu)))) (λu M hM=>?_)
 rw [← hf] at hM
 obtain ⟨u,rfl,hu⟩:=hM
 have hub:=hu.byt
 obtain ⟨A2,n2,c2,rfl,k2,k3,k4,k5⟩:=hub
 refine sp rfl<|sp rfl<|sp rfl ?_
 refine sM 166 (rrC (.slice none 0 0) 0 0) (λg5=>?_)
 refine Sy.movT (pre:=[(gr,168,rrC (.slice A m cp) at_ e)]) (T:=R++M) ?_
 refine sw 1 rfl (rrC (.slice A m cp) f.1 f.2.1) (wA rfl)<|sp rfl ?_
 refine sA ?_
 refine sp rfl<|sS (rrV (.slice A m cp) f.1 f.2.1) (qk 1 0 3 rfl rfl Tryz.underlying166)<|sp rfl<|sP (.pointer (some ⟨gr,0,none⟩))<|sw 0 rfl (rrC (.slice A m cp) f.1 f.2.1) (wA rfl) ?_
 refine sA ?_
 refine sp rfl<|sp rfl ?_
 refine sG<|Sy.ret ?_
 exact Sy.retT1 (RB gr (.slice A m cp) f.1 f.2.1 (R++M)) rfl (.inl (show _=_ by kernel_rfl)) (λ_ h=>keep1 h) ⟨_,_,_,M,q1,hu,q2,q3,rfl⟩
theorem textW_any (w0:Base) (gw:Nat) (bad:Bool) (s:Slc) (R:Blocks) (b:Byt) (v:Value) (x:Byt) (most:Nat) (hmo:most<1000000) (hb:BS s b) (hx:BytR (rdW w0.world) v x) (hl:b.length+(9+x.length)≤70368744170000) (w:World) (hw:St w0 w (WB gw bad s R)) :
  Calls Tryz.prog 132 #[ptr gw,v,.int .i64 (most:Int)] w (Turns w0 (Wd gw R (decide (x.length≤most)) (varB x.length++x) (9+x.length) bad b)):=by
 have hx0:=hx
 obtain ⟨A,n,cp,rfl,h2,h3,h4,h5⟩:=hx
 have hn9:=varB_len x.length
 obtain ⟨ok,hok⟩:∃ ok,ok=decide (x.length≤most):=⟨_,rfl⟩
 rw [← hok]
 rw [h2] at hok
 refine Sy.enterT (args:=[ptr gw,.slice A n cp,.int .i64 (most:Int)]) hw Tryz.func132 rfl kL ?_
 refine sC ?_
 refine sp rfl<|sp rfl<|sP (.int .i64 (n:Int))<|sp rfl<|sS (.bool ok) (Quiet.pure (exec_int .leq _ _ _ .i64 _ _ _ rfl rfl rfl (int_leq _ _ _ _ _ (by rw [hok]; exact decide_eq_decide.2 (by omega))))) ?_
 refine Sy.callT (λw hw=>mustW_any w0.inn gw bad ok s R w hw) (λu M hM=>?_)
 subst hM
 refine Sy.nil<|Sy.then_<|Sy.region ?_
 refine sp rfl<|sp rfl ?_
 refine Sy.callN kR 184 #[.slice A n cp] kF _ (λw' hw=>textR_any w' (.slice A n cp) x (hx0.le (λg o u hu=>rdC_world (w0:=w0.inn) (R:=[]) hw (λ_ h=>by cases h) g o u (.inl hu))) (by omega)) (λu M hM=>?_)
 refine Sy.permS (M:=WB gw (bad || !ok) s (R++M)) (List.Perm.of_eq (by simp only [List.append_assoc])) ?_
 refine Sy.callT (λw hw=>wrawW_any w0.inn gw (bad || !ok) s (R++M) b u (varB x.length++x) hb (hM.byt.le (λg o v h=>.inr (rdB_le (λx hx=>List.mem_append_right _ hx) g o v h))) (by rw [List.length_append]; omega) w hw) (λv M2 hM2=>?_)
 obtain ⟨r,hr,rfl⟩:=hM2
 refine Sy.nil ?_
 have q:=(Wrote.must ok bad b).then_ (Wrote.raw (varB x.length++x) (bad || !ok) b (k:=9+x.length) (by rw [List.length_append]; omega))
 rw [Bool.and_true,List.nil_append,Nat.zero_add] at q
 exact Sy.retT0 rfl (WB gw (bad || !ok) r R) (λ_ h=>dropW h) (λ_=>⟨r,bad || !ok,_,q,hr,rfl⟩)
theorem truthW_any (w0:Base) (gw:Nat) (bad:Bool) (s:Slc) (R:Blocks) (b:Byt) (x:Bool) (hb:BS s b) (hl:b.length+1≤70368744177664) (w:World) (hw:St w0 w (WB gw bad s R)) :
  Calls Tryz.prog 153 #[ptr gw,.bool x] w (Turns w0 (WRw gw bad b [trB x] R)):=by
 have fnd:∀ (g1:Nat) (u:UInt8),BytR (rdC w0.inn (R++[(g1,5,#[bv u])])) (.slice (some ⟨g1,0,none⟩) 1 1) [u]:=λg1 u=>⟨_,_,_,rfl,rfl,Nat.le_refl _,by decide,λ_=>⟨g1,0,rfl,λj y hj=>.inr ⟨5,#[bv u],List.mem_append_right _ (List.mem_singleton.2 rfl),by
  cases j with
  | zero=>cases hj; rfl
  | succ j=>cases hj⟩⟩⟩
 refine Sy.enterT (args:=[ptr gw,.bool x]) hw Tryz.func153 rfl kL ?_
 refine sC ?_
 refine sp rfl ?_
 refine sG ?_
 cases x
 case' false =>
  refine sU<|Sy.region ?_
  refine sp rfl ?_
  refine Sy.make kR 5 #[bv (trB false)] (λg=>.slice (some ⟨g,0,none⟩) 1 1) kF (λg1=>?_)
  refine Sy.permS (M:=WB gw bad s (R++[(g1,5,#[bv (trB false)])])) (List.Perm.of_eq (by simp only [List.append_assoc])) ?_
  refine Sy.callT (λw hw=>wrawW_any w0.inn gw bad s (R++[(g1,5,#[bv (trB false)])]) b (.slice (some ⟨g1,0,none⟩) 1 1) [trB false] hb (fnd g1 (trB false)) (by show _+1≤_; omega) w hw) (λv M hM=>?_)
  obtain ⟨r,hr,rfl⟩:=hM
  refine Sy.nil ?_
  exact Sy.retT0 rfl (WB gw bad r R) (λ_ h=>dropW h) (λ_=>⟨r,hr,rfl⟩)
 case' true =>
  refine sT<|Sy.region ?_
  refine sp rfl ?_
  refine Sy.make kR 5 #[bv (trB true)] (λg=>.slice (some ⟨g,0,none⟩) 1 1) kF (λg1=>?_)
  refine Sy.permS (M:=WB gw bad s (R++[(g1,5,#[bv (trB true)])])) (List.Perm.of_eq (by simp only [List.append_assoc])) ?_
  refine Sy.callT (λw hw=>wrawW_any w0.inn gw bad s (R++[(g1,5,#[bv (trB true)])]) b (.slice (some ⟨g1,0,none⟩) 1 1) [trB true] hb (fnd g1 (trB true)) (by show _+1≤_; omega) w hw) (λv M hM=>?_)
  obtain ⟨r,hr,rfl⟩:=hM
  refine Sy.nil ?_
  exact Sy.retT0 rfl (WB gw bad r R) (λ_ h=>dropW h) (λ_=>⟨r,hr,rfl⟩)
end Wr
end
section
namespace Wr
open Go.RowKit Sy
set_option maxRecDepth 100000
set_option maxHeartbeats 4000000
end Wr
end
section
namespace Wr
open Go.RowKit Sy
set_option maxRecDepth 100000
set_option maxHeartbeats 4000000
end Wr
end
section
namespace Wr
open Go.RowKit Sy
set_option maxRecDepth 100000
set_option maxHeartbeats 4000000
theorem sml_tru:bindP (smlP 0 1) (λz=>retP (decide (z=1)))=truP:=by
 funext l
 cases h:numP 1 l with
 | none =>
  have h1:smlP 0 1 l=none:=by unfold smlP; exact bind_none h
  have h2:octP l=none:=by unfold octP; exact bind_none h
  unfold truP
  rw [bind_none h1,bind_none h2]
 | some u =>
  obtain ⟨n,r⟩:=u
  have h2:octP l=some ((n:Int),r):=by unfold octP; rw [bind_some h]; rfl
  unfold truP
  rw [bind_some h2]
  by_cases hn:n≤1
  ·have h1:smlP 0 1 l=some ((n:Int),r):=by
    unfold smlP
    rw [bind_some h,decide_eq_true (show 0≤n∧n≤1 by omega)]
    rfl
   rw [bind_some h1,decide_eq_true (show (n:Int)≤1 by omega)]
   rfl
  ·have h1:smlP 0 1 l=none:=by
    unfold smlP
    rw [bind_some h,decide_eq_false (show ¬ (0≤n∧n≤1) by omega)]
    rfl
   rw [bind_none h1,decide_eq_false (show ¬ (n:Int)≤1 by omega)]
   rfl
end Wr
end
section
namespace Wr
open Go.RowKit Sy
set_option maxRecDepth 100000
set_option maxHeartbeats 4000000
theorem bind_inv {α β:Type} {p:Ps α} {q:α→Ps β} {l r:Byt} {x:β} (h:bindP p q l=some (x,r)):∃ y r1,p l=some (y,r1)∧q y r1=some (x,r):=by
 cases hp:p l with
 | none=>rw [bind_none hp] at h; cases h
 | some u =>
  obtain ⟨y,r1⟩:=u
  rw [bind_some hp] at h
  exact ⟨y,r1,rfl,h⟩
theorem text_le {most:Nat} {l r x:Byt} (h:textP most l=some (x,r)):x.length≤most:=by
 obtain ⟨n,r1,h1,h2⟩:=bind_inv h
 rw [(take_len h2).1]
 exact var_le h1
end Wr
end
end Go.Proofs.YtnbenphcpenbeaaGreat
