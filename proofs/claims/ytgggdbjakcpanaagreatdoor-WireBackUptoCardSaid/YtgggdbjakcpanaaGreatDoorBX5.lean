/-
  Texts of ours, put together: WirDC, WirDD, WirDE, WirXD, WirCD, WirDF, WirDG, WirEA, WirEB, WirP, WirQ, WirR, WirS, WirT, WirU, WirV, WirW, WirBC, WirBD, WirCE, WirCF, CrvY, RefNumber, SymX, CrvE, CrvZ, WirDH, WirDI, WirEC, WirDJ, WirCG, WirDK, WirDL, WirED, WirFA, ScSpec, ScLow, ScBase, ScOps, ScEq, ScB32, WirGA, WirGB, WirGC.
-/
import Derived.Test.YtgggdbjakcpanaaGreatDoorBX4
set_option linter.unusedVariables false
set_option linter.unusedSimpArgs false
namespace Go.Proofs.YtgggdbjakcpanaaGreatDoor
section
namespace Wr
open Go.RowKit Sy
set_option maxRecDepth 100000
set_option maxHeartbeats 4000000
theorem eql_dgs (w:World) (F:Slots) (o:Oper) (x y:Operand) (a b:List UInt8) (ha:a.length=32) (hb:b.length=32) {yt:TypeId} (ho:o.op=.binOp .eql 28 x y yt) (hx:evF F x=.agg (a.map bv).toArray) (hy:evF F y=.agg (b.map bv).toArray):(execOp (evF F) o).run Tryz.prog w=.ok (.value (.bool (decide (a=b)))) w:=by
 have h1:(eqGuard .eql 28 x y (.agg (a.map bv).toArray) (.agg (b.map bv).toArray)).run Tryz.prog w=.ok () w:=by go_simp
 have h2:(binOp .eql 28 (.agg (a.map bv).toArray) (.agg (b.map bv).toArray)).run Tryz.prog w=.ok (.bool (decide (a=b))) w:=by
  have h:=run_equalIn_bytes (P:=Tryz.prog) w 9998 28 5 32 Tryz.underlying28 Tryz.underlying5 (λW=>by kernel_rfl) a b ha hb
  rw [run_eql_struct,show (10000:Nat)=9998+2 from rfl,show (Op.equalIn (9998+2) 28 (.agg (a.map bv).toArray) (.agg (b.map bv).toArray)).run Tryz.prog w=_ from h]
  by_cases e:a=b <;> simp [e]
 unfold execOp
 simp only [ho,hx,hy,Sem.run_bind,h1,h2,Result.andThen_ok,Sem.run_pure]
def z32:Byt:=List.replicate 32 0
def nulPT (p:MPt):Bool:=Cu.sameB p.x p.y p.i 0 0 false
structure MTag where
 blind:Bool
 id:Byt
 pt:MPt
def cTG (t:MTag):List Value:=[.bool t.blind]++(t.id.map bv++lPT t.pt)
def repTG (_:Rdr) (cs:List Value) (t:MTag):Prop:=cs=cTG t∧t.id.length=32∧t.pt.x<Cu.K4∧t.pt.y<Cu.K4
def okTG (t:MTag):Bool:=if t.blind=true then okPT t.pt && decide (t.id=z32) else nulPT t.pt
def encTG (t:MTag):Byt:=[trB t.blind]++(if t.blind=true then encPT t.pt else t.id)
def rdTG:Ps MTag:=bindP truP λb=>if b=true then bindP ptP λp=>retP ⟨true,z32,p⟩ else bindP (takeP 32) λd=>retP ⟨false,d,⟨0,0,false⟩⟩
structure MAmt where
 blind:Bool
 value:Nat
 pt:MPt
def cAM (t:MAmt):List Value:=[.bool t.blind]++([.int .u64 (t.value:Int)]++lPT t.pt)
def repAM (_:Rdr) (cs:List Value) (t:MAmt):Prop:=cs=cAM t∧t.value<18446744073709551616∧t.pt.x<Cu.K4∧t.pt.y<Cu.K4
def okAM (t:MAmt):Bool:=if t.blind=true then okPT t.pt && decide (t.value=0) else nulPT t.pt
def encAM (t:MAmt):Byt:=[trB t.blind]++(if t.blind=true then encPT t.pt else nb 8 t.value)
def rdAM:Ps MAmt:=bindP truP λb=>if b=true then bindP ptP λp=>retP ⟨true,0,p⟩ else bindP (numP 8) λd=>retP ⟨false,d,⟨0,0,false⟩⟩
theorem tag_w:PutO 124 42 repTG okTG encTG (λ_=>34):=λw0 gc gw gx f bad s R b cs x hx _ hc hb hl w hw=>by
 obtain ⟨bl,id,p⟩:=x
 obtain ⟨rfl,h1,h2,h3⟩:=hx
 dsimp only at h1 h2 h3 hl
 have e1:(id.map bv).length=32:=by rw [List.length_map,h1]
 have c0:OwnAt R gx f ([.bool bl]++(id.map bv++lPT p)):=hc
 have c1:OwnAt R gx (f+1) (id.map bv++lPT p):=c0.right (n:=1) rfl
 have c2:OwnAt R gx (f+33) (lPT p):=by have q:=c1.right e1; rwa [Nat.add_assoc] at q
 have X0:rdC w0.inn R gx f (.bool bl):=(c0.at w0.inn).one
 have X1:XAt (rdC w0.inn R) gx (f+1) (id.map bv):=(c1.at w0.inn).left
 have X2:XAt (rdC w0.inn R) gx (f+33) (lPT p):=c2.at w0.inn
 refine Sy.enterT (args:=[ptr gc,.pointer (some ⟨gx,f,none⟩)]) hw Tryz.func124 rfl kL ?_
 refine sC ?_
 refine sp rfl<|sp rfl<|sp rfl<|sP (.pointer (some ⟨gx,f,none⟩)) ?_
 refine Sy.callT (λw hw=>truth_w w0.inn gc gw gx f bad s R b bl c0.left hb (by omega) w hw) (λu M hM=>?_)
 obtain ⟨s1,bad1,b1,q1,p1,rfl⟩:=hM
 have l1:=q1.len
 refine sA ?_
 refine sp rfl<|sp rfl<|sP (.pointer (some ⟨gx,f,none⟩))<|sS (.bool bl) (cellC (R:=R) X0 inCW rfl Tryz.underlying4) ?_
 refine sG ?_
 cases bl
 case' true =>
  refine sT<|sC ?_
  refine sp rfl<|sp rfl<|sp rfl<|sP (.pointer (some ⟨gx,f+33,none⟩)) ?_
  refine Sy.callT (λw hw=>point_w w0.inn gc gw gx (f+33) bad1 s1 R b1 (lPT p) p ⟨rfl,h2,h3⟩ rfl X2 p1 (by show _+33≤_; omega) w hw) (λu M hM=>?_)
  obtain ⟨s2,bad2,b2,q2,p2,rfl⟩:=hM
  obtain ⟨ok,hok⟩:∃ z:Bool,z=decide (id=z32):=⟨_,rfl⟩
  refine Sy.nil<|Sy.then_<|Sy.region ?_
  refine sp rfl<|sp rfl<|sp rfl<|sP (.pointer (some ⟨gx,f+1,none⟩))<|sS (.agg (id.map bv).toArray) (rowC (R:=R) (cs:=id.map bv) X1 inCW e1 rfl Tryz.underlying28)<|sP (.agg (z32.map bv).toArray)<|sS (.bool ok) (Quiet.pure (λw=>by rw [hok]; exact eql_dgs w _ _ _ _ id z32 h1 rfl rfl rfl rfl)) ?_
  refine Sy.callT (λw hw=>must_w w0.inn gc gw bad2 ok s2 R w hw) (λu M hM=>?_)
  subst hM
  refine Sy.nil ?_
  have q:=q1.then_ (q2.then_ (Wrote.must ok bad2 b2))
  rw [Bool.true_and,List.append_nil,hok] at q
  exact Sy.retT0 rfl (CWS gc gw (bad2 || !ok) s2 R) (λ_ h=>h) (λ_=>⟨s2,bad2 || !ok,b2,by rw [hok]; exact q,p2,rfl⟩)
 refine sU<|sC ?_
 refine sp rfl<|sp rfl<|sp rfl<|sP (.pointer (some ⟨gx,f+1,none⟩)) ?_
 refine Sy.callT (λw hw=>digest_w w0.inn gc gw gx (f+1) bad1 s1 R b1 id h1 X1 p1 (by omega) w hw) (λu M hM=>?_)
 obtain ⟨s2,bad2,b2,q2,p2,rfl⟩:=hM
 obtain ⟨ok,hok⟩:∃ z:Bool,z=nulPT p:=⟨_,rfl⟩
 refine Sy.nil<|Sy.then_<|Sy.region ?_
 refine sp rfl<|sp rfl<|sp rfl<|sP (.pointer (some ⟨gx,f+33,none⟩))<|sS (Cu.pv p.x p.y p.i) (rowC (R:=R) (cs:=lPT p) X2 inCW rfl rfl Tryz.underlying73)<|sP (Cu.pv 0 0 false)<|sS (.bool ok) (Quiet.pure (λw=>by rw [hok]; exact Cu.eql_pt w _ _ _ _ p.x p.y p.i 0 0 false rfl rfl rfl h2 h3 (by decide) (by decide))) ?_
 refine Sy.callT (λw hw=>must_w w0.inn gc gw bad2 ok s2 R w hw) (λu M hM=>?_)
 subst hM
 refine Sy.nil ?_
 have q:=(q1.then_ (q2.then_ (Wrote.must ok bad2 b2))).le (k':=34) (by omega)
 rw [Bool.true_and,Bool.true_and,List.append_nil,hok] at q
 exact Sy.retT0 rfl (CWS gc gw (bad2 || !ok) s2 R) (λ_ h=>h) (λ_=>⟨s2,bad2 || !ok,b2,by rw [hok]; exact q,p2,rfl⟩)
theorem amount_w:PutO 125 11 repAM okAM encAM (λ_=>34):=λw0 gc gw gx f bad s R b cs x hx _ hc hb hl w hw=>by
 obtain ⟨bl,va,p⟩:=x
 obtain ⟨rfl,h1,h2,h3⟩:=hx
 dsimp only at h1 h2 h3 hl
 have c0:OwnAt R gx f ([.bool bl]++([.int .u64 (va:Int)]++lPT p)):=hc
 have c1:OwnAt R gx (f+1) ([.int .u64 (va:Int)]++lPT p):=c0.right (n:=1) rfl
 have c2:OwnAt R gx (f+2) (lPT p):=c1.right (n:=1) rfl
 have X0:rdC w0.inn R gx f (.bool bl):=(c0.at w0.inn).one
 have X1:rdC w0.inn R gx (f+1) (.int .u64 (va:Int)):=(c1.at w0.inn).one
 have X2:XAt (rdC w0.inn R) gx (f+2) (lPT p):=c2.at w0.inn
 refine Sy.enterT (args:=[ptr gc,.pointer (some ⟨gx,f,none⟩)]) hw Tryz.func125 rfl kL ?_
 refine sC ?_
 refine sp rfl<|sp rfl<|sp rfl<|sP (.pointer (some ⟨gx,f,none⟩)) ?_
 refine Sy.callT (λw hw=>truth_w w0.inn gc gw gx f bad s R b bl c0.left hb (by omega) w hw) (λu M hM=>?_)
 obtain ⟨s1,bad1,b1,q1,p1,rfl⟩:=hM
 have l1:=q1.len
 refine sA ?_
 refine sp rfl<|sp rfl<|sP (.pointer (some ⟨gx,f,none⟩))<|sS (.bool bl) (cellC (R:=R) X0 inCW rfl Tryz.underlying4) ?_
 refine sG ?_
 cases bl
 case' true =>
  refine sT<|sC ?_
  refine sp rfl<|sp rfl<|sp rfl<|sP (.pointer (some ⟨gx,f+2,none⟩)) ?_
  refine Sy.callT (λw hw=>point_w w0.inn gc gw gx (f+2) bad1 s1 R b1 (lPT p) p ⟨rfl,h2,h3⟩ rfl X2 p1 (by show _+33≤_; omega) w hw) (λu M hM=>?_)
  obtain ⟨s2,bad2,b2,q2,p2,rfl⟩:=hM
  obtain ⟨ok,hok⟩:∃ z:Bool,z=decide (va=0):=⟨_,rfl⟩
  refine Sy.nil<|Sy.then_<|Sy.region ?_
  refine sp rfl<|sp rfl<|sp rfl<|sP (.pointer (some ⟨gx,f+1,none⟩))<|sS (.int .u64 (va:Int)) (cellC (R:=R) X1 inCW rfl Tryz.underlying22)<|sS (.bool ok) (Quiet.pure (exec_int .eql _ _ _ .u64 _ _ _ rfl rfl rfl (int_eql _ _ _ _ _ (by rw [hok]; exact decide_eq_decide.2 (by omega))))) ?_
  refine Sy.callT (λw hw=>must_w w0.inn gc gw bad2 ok s2 R w hw) (λu M hM=>?_)
  subst hM
  refine Sy.nil ?_
  have q:=q1.then_ (q2.then_ (Wrote.must ok bad2 b2))
  rw [Bool.true_and,List.append_nil,hok] at q
  exact Sy.retT0 rfl (CWS gc gw (bad2 || !ok) s2 R) (λ_ h=>h) (λ_=>⟨s2,bad2 || !ok,b2,by rw [hok]; exact q,p2,rfl⟩)
 refine sU<|sC ?_
 refine sp rfl<|sp rfl<|sp rfl<|sP (.pointer (some ⟨gx,f+1,none⟩)) ?_
 refine Sy.callT (λw hw=>long_w w0.inn gc gw gx (f+1) bad1 s1 R b1 va h1 X1 p1 (by omega) w hw) (λu M hM=>?_)
 obtain ⟨s2,bad2,b2,q2,p2,rfl⟩:=hM
 obtain ⟨ok,hok⟩:∃ z:Bool,z=nulPT p:=⟨_,rfl⟩
 refine Sy.nil<|Sy.then_<|Sy.region ?_
 refine sp rfl<|sp rfl<|sp rfl<|sP (.pointer (some ⟨gx,f+2,none⟩))<|sS (Cu.pv p.x p.y p.i) (rowC (R:=R) (cs:=lPT p) X2 inCW rfl rfl Tryz.underlying73)<|sP (Cu.pv 0 0 false)<|sS (.bool ok) (Quiet.pure (λw=>by rw [hok]; exact Cu.eql_pt w _ _ _ _ p.x p.y p.i 0 0 false rfl rfl rfl h2 h3 (by decide) (by decide))) ?_
 refine Sy.callT (λw hw=>must_w w0.inn gc gw bad2 ok s2 R w hw) (λu M hM=>?_)
 subst hM
 refine Sy.nil ?_
 have q:=(q1.then_ (q2.then_ (Wrote.must ok bad2 b2))).le (k':=34) (by omega)
 rw [Bool.true_and,Bool.true_and,List.append_nil,hok] at q
 exact Sy.retT0 rfl (CWS gc gw (bad2 || !ok) s2 R) (λ_ h=>h) (λ_=>⟨s2,bad2 || !ok,b2,by rw [hok]; exact q,p2,rfl⟩)
end Wr
end
section
namespace Wr
open Go.RowKit Sy
set_option maxRecDepth 100000
set_option maxHeartbeats 4000000
theorem mid_fit {A v Z:List Value} {f k:Nat} (hA:A.length=f) (hv:v.length=k):f+k≤(A++(v++Z)).length:=by rw [List.length_append,List.length_append,hA,hv]; omega
theorem tag_r:GetC 124 42 ([Value.bool false]++(Z32++lPT ⟨0,0,false⟩)) repTG rdTG:=λw0 gc gr gx f tx A Z sl s R S hS hA he hl hv w hw=>by
 refine Sy.enterT (args:=[ptr gc,.pointer (some ⟨gx,f,none⟩)]) hw Tryz.func124 rfl kL ?_
 refine sC ?_
 refine sp rfl<|sp rfl<|sp rfl<|sP (.pointer (some ⟨gx,f,none⟩)) ?_
 refine Sy.callT (λw hw=>truth_r w0.inn gc gr gx f tx A (Z32++(lPT ⟨0,0,false⟩++Z)) sl s R S hS hA he hl hv w (by simpa only [List.append_assoc] using hw)) (λu M hM=>?_)
 obtain ⟨x1,s1,sl1,cs1,N1,a1,n1,o1,rfl,e1,h1,y1,rfl⟩:=hM
 have hS1:∀ b∈S,b∈R++N1:=λb h=>List.mem_append_left _ (hS b h)
 refine sA ?_
 refine sp rfl<|sp rfl<|sP (.pointer (some ⟨gx,f,none⟩))<|sS (.bool x1) (Quiet.cell 1 gx f tx 4 (A++([Value.bool x1]++(Z32++(lPT ⟨0,0,false⟩++Z)))).toArray _ _ rfl kR rfl Tryz.underlying4 rfl _ (by rw [List.getElem?_toArray,List.getElem?_append_right (by omega),hA,Nat.sub_self]; rfl)) ?_
 refine sG ?_
 cases x1
 case' true =>
  have A1:(A++[Value.bool true]).length=f+1:=by rw [List.length_append,hA]; rfl
  have A2:(A++[Value.bool true]++Z32).length=f+33:=by rw [List.length_append,A1,Z32_len]
  refine sT<|sC ?_
  refine sp rfl<|sp rfl<|sp rfl<|sP (.pointer (some ⟨gx,f+33,none⟩)) ?_
  refine Sy.callT (λw hw=>point_r w0.inn gc gr gx (f+33) tx (A++[Value.bool true]++Z32) Z sl1 s1 (R++N1) S hS1 A2 e1 (Nat.le_trans h1 hl) y1 w (by simpa only [List.append_assoc] using hw)) (λu M hM=>?_)
  obtain ⟨m,s2,sl2,cs2,N2,a2,n2,o2,⟨rfl,b1,b2⟩,e2,h2,y2,rfl⟩:=hM
  refine Sy.permS (M:=CRS gc gr gx tx ((A++[Value.bool true])++(Z32++(lPT m++Z))) sl2 s2.e (R++N1++N2)) (List.Perm.of_eq (by rw [List.append_assoc (A++[Value.bool true])])) ?_
  refine Sy.nil<|Sy.then_<|Sy.region ?_
  refine sp rfl<|sp rfl<|sp rfl<|sP (.pointer (some ⟨gx,f+1,none⟩))<|sS (.agg (z32.map bv).toArray) (Quiet.mid 1 gx (f+1) 32 tx 28 ((A++[Value.bool true])++(Z32++(lPT m++Z))) Z32 _ _ rfl kR rfl Tryz.underlying28 rfl kR (mid_cells A1 Z32_len) (mid_fit A1 Z32_len))<|sP (.agg (z32.map bv).toArray)<|sS (.bool true) (Quiet.pure (λw=>(eql_dgs w _ _ _ _ z32 z32 rfl rfl rfl rfl rfl).trans (by rw [decide_eq_true rfl]))) ?_
  have p5:(CRS gc gr gx tx ((A++[Value.bool true])++(Z32++(lPT m++Z))) sl2 s2.e (R++N1++N2)).Perm (CRN gc gr sl2 s2.e ((gx,tx,((A++[Value.bool true])++(Z32++(lPT m++Z))).toArray)::(R++N1++N2))):=swap23
  refine Sy.permS p5 ?_
  refine Sy.callT (λw hw=>must_r w0.inn gc gr sl2 s2.e e2 ((gx,tx,((A++[Value.bool true])++(Z32++(lPT m++Z))).toArray)::(R++N1++N2)) true w hw) (λu M hM=>?_)
  subst hM
  rw [if_pos rfl]
  refine Sy.permS p5.symm ?_
  refine Sy.nil ?_
  have hAf:After rdTG s ⟨true,z32,m⟩ s2:=a1.bind (by rw [if_pos rfl]; exact a2.bind (After.ret _ _))
  have hLn:([Value.bool true]++(Z32++lPT m)).length=42:=rfl
  have hOn:∀ u∈([Value.bool true]++(Z32++lPT m)),u.oneCell'=true:=ones_app o1 (ones_app (ones_bW z32) o2)
  exact Sy.retT0 rfl (CRS gc gr gx tx (A++(([Value.bool true]++(Z32++lPT m))++Z)) sl2 s2.e (R++(N1++N2))) (λ_ h=>by simpa only [List.append_assoc,List.cons_append,List.nil_append] using h) (λ_=>⟨_,s2,sl2,_,N1++N2,hAf,hLn,hOn,⟨rfl,rfl,b1,b2⟩,e2,Nat.le_trans h2 h1,y2,rfl⟩)
 have A1:(A++[Value.bool false]).length=f+1:=by rw [List.length_append,hA]; rfl
 refine sU<|sC ?_
 refine sp rfl<|sp rfl<|sp rfl<|sP (.pointer (some ⟨gx,f+1,none⟩)) ?_
 refine Sy.callT (λw hw=>digest_r w0.inn gc gr gx (f+1) tx (A++[Value.bool false]) (lPT ⟨0,0,false⟩++Z) sl1 s1 (R++N1) S hS1 A1 e1 (Nat.le_trans h1 hl) y1 w (by simpa only [List.append_assoc] using hw)) (λu M hM=>?_)
 obtain ⟨m,s2,sl2,cs2,N2,a2,n2,o2,⟨rfl,b1⟩,e2,h2,y2,rfl⟩:=hM
 have A2:(A++[Value.bool false]++m.map bv).length=f+33:=by rw [List.length_append,A1,n2]
 refine Sy.permS (M:=CRS gc gr gx tx ((A++[Value.bool false]++m.map bv)++(lPT ⟨0,0,false⟩++Z)) sl2 s2.e (R++N1++N2)) (List.Perm.of_eq (by rw [List.append_assoc (A++[Value.bool false])])) ?_
 refine Sy.nil<|Sy.then_<|Sy.region ?_
 refine sp rfl<|sp rfl<|sp rfl<|sP (.pointer (some ⟨gx,f+33,none⟩))<|sS (Cu.pv 0 0 false) (Quiet.mid 1 gx (f+33) 9 tx 73 ((A++[Value.bool false]++m.map bv)++(lPT ⟨0,0,false⟩++Z)) (lPT ⟨0,0,false⟩) _ _ rfl kR rfl Tryz.underlying73 rfl kR (mid_cells A2 rfl) (mid_fit A2 rfl))<|sP (Cu.pv 0 0 false)<|sS (.bool true) (Quiet.pure (λw=>Cu.eql_pt w _ _ _ _ 0 0 false 0 0 false rfl rfl rfl (by decide) (by decide) (by decide) (by decide))) ?_
 have p5:(CRS gc gr gx tx ((A++[Value.bool false]++m.map bv)++(lPT ⟨0,0,false⟩++Z)) sl2 s2.e (R++N1++N2)).Perm (CRN gc gr sl2 s2.e ((gx,tx,((A++[Value.bool false]++m.map bv)++(lPT ⟨0,0,false⟩++Z)).toArray)::(R++N1++N2))):=swap23
 refine Sy.permS p5 ?_
 refine Sy.callT (λw hw=>must_r w0.inn gc gr sl2 s2.e e2 ((gx,tx,((A++[Value.bool false]++m.map bv)++(lPT ⟨0,0,false⟩++Z)).toArray)::(R++N1++N2)) true w hw) (λu M hM=>?_)
 subst hM
 rw [if_pos rfl]
 refine Sy.permS p5.symm ?_
 refine Sy.nil ?_
 ·have hAf:After rdTG s ⟨false,m,⟨0,0,false⟩⟩ s2:=a1.bind (by rw [if_neg (by decide)]; exact a2.bind (After.ret _ _))
  have hLn:([Value.bool false]++(m.map bv++lPT ⟨0,0,false⟩)).length=42:=by rw [List.length_append,List.length_append,n2]; rfl
  have hOn:∀ u∈([Value.bool false]++(m.map bv++lPT ⟨0,0,false⟩)),u.oneCell'=true:=ones_app o1 (ones_app o2 (lPT_one _))
  exact Sy.retT0 rfl (CRS gc gr gx tx (A++(([Value.bool false]++(m.map bv++lPT ⟨0,0,false⟩))++Z)) sl2 s2.e (R++(N1++N2))) (λ_ h=>by simpa only [List.append_assoc,List.cons_append,List.nil_append] using h) (λ_=>⟨_,s2,sl2,_,N1++N2,hAf,hLn,hOn,⟨rfl,b1,(show 0<Cu.K4 by decide),(show 0<Cu.K4 by decide)⟩,e2,Nat.le_trans h2 h1,y2,rfl⟩)
theorem amount_r:GetC 125 11 ([Value.bool false]++([Value.int .u64 0]++lPT ⟨0,0,false⟩)) repAM rdAM:=λw0 gc gr gx f tx A Z sl s R S hS hA he hl hv w hw=>by
 refine Sy.enterT (args:=[ptr gc,.pointer (some ⟨gx,f,none⟩)]) hw Tryz.func125 rfl kL ?_
 refine sC ?_
 refine sp rfl<|sp rfl<|sp rfl<|sP (.pointer (some ⟨gx,f,none⟩)) ?_
 refine Sy.callT (λw hw=>truth_r w0.inn gc gr gx f tx A ([Value.int .u64 0]++(lPT ⟨0,0,false⟩++Z)) sl s R S hS hA he hl hv w (by simpa only [List.append_assoc] using hw)) (λu M hM=>?_)
 obtain ⟨x1,s1,sl1,cs1,N1,a1,n1,o1,rfl,e1,h1,y1,rfl⟩:=hM
 have hS1:∀ b∈S,b∈R++N1:=λb h=>List.mem_append_left _ (hS b h)
 refine sA ?_
 refine sp rfl<|sp rfl<|sP (.pointer (some ⟨gx,f,none⟩))<|sS (.bool x1) (Quiet.cell 1 gx f tx 4 (A++([Value.bool x1]++([Value.int .u64 0]++(lPT ⟨0,0,false⟩++Z)))).toArray _ _ rfl kR rfl Tryz.underlying4 rfl _ (by rw [List.getElem?_toArray,List.getElem?_append_right (by omega),hA,Nat.sub_self]; rfl)) ?_
 refine sG ?_
 cases x1
 case' true =>
  have A1:(A++[Value.bool true]).length=f+1:=by rw [List.length_append,hA]; rfl
  have A2:(A++[Value.bool true]++[Value.int .u64 0]).length=f+2:=by rw [List.length_append,A1]; rfl
  refine sT<|sC ?_
  refine sp rfl<|sp rfl<|sp rfl<|sP (.pointer (some ⟨gx,f+2,none⟩)) ?_
  refine Sy.callT (λw hw=>point_r w0.inn gc gr gx (f+2) tx (A++[Value.bool true]++[Value.int .u64 0]) Z sl1 s1 (R++N1) S hS1 A2 e1 (Nat.le_trans h1 hl) y1 w (by simpa only [List.append_assoc] using hw)) (λu M hM=>?_)
  obtain ⟨m,s2,sl2,cs2,N2,a2,n2,o2,⟨rfl,b1,b2⟩,e2,h2,y2,rfl⟩:=hM
  refine Sy.permS (M:=CRS gc gr gx tx ((A++[Value.bool true])++([Value.int .u64 0]++(lPT m++Z))) sl2 s2.e (R++N1++N2)) (List.Perm.of_eq (by rw [List.append_assoc (A++[Value.bool true])])) ?_
  refine Sy.nil<|Sy.then_<|Sy.region ?_
  refine sp rfl<|sp rfl<|sp rfl<|sP (.pointer (some ⟨gx,f+1,none⟩))<|sS (.int .u64 0) (Quiet.cell 1 gx (f+1) tx 22 ((A++[Value.bool true])++([Value.int .u64 0]++(lPT m++Z))).toArray _ _ rfl kR rfl Tryz.underlying22 rfl _ (by rw [List.getElem?_toArray,List.getElem?_append_right (by omega),A1,Nat.sub_self]; rfl))<|sP (.bool true) ?_
  have p5:(CRS gc gr gx tx ((A++[Value.bool true])++([Value.int .u64 0]++(lPT m++Z))) sl2 s2.e (R++N1++N2)).Perm (CRN gc gr sl2 s2.e ((gx,tx,((A++[Value.bool true])++([Value.int .u64 0]++(lPT m++Z))).toArray)::(R++N1++N2))):=swap23
  refine Sy.permS p5 ?_
  refine Sy.callT (λw hw=>must_r w0.inn gc gr sl2 s2.e e2 ((gx,tx,((A++[Value.bool true])++([Value.int .u64 0]++(lPT m++Z))).toArray)::(R++N1++N2)) true w hw) (λu M hM=>?_)
  subst hM
  rw [if_pos rfl]
  refine Sy.permS p5.symm ?_
  refine Sy.nil ?_
  have hAf:After rdAM s ⟨true,0,m⟩ s2:=a1.bind (by rw [if_pos rfl]; exact a2.bind (After.ret _ _))
  have hLn:([Value.bool true]++([Value.int .u64 0]++lPT m)).length=11:=rfl
  have hOn:∀ u∈([Value.bool true]++([Value.int .u64 0]++lPT m)),u.oneCell'=true:=ones_app o1 (ones_app (λu hu=>by rw [List.mem_singleton.1 hu]; rfl) o2)
  exact Sy.retT0 rfl (CRS gc gr gx tx (A++(([Value.bool true]++([Value.int .u64 0]++lPT m))++Z)) sl2 s2.e (R++(N1++N2))) (λ_ h=>by simpa only [List.append_assoc,List.cons_append,List.nil_append] using h) (λ_=>⟨_,s2,sl2,_,N1++N2,hAf,hLn,hOn,⟨rfl,(show (0:Nat)<18446744073709551616 by decide),b1,b2⟩,e2,Nat.le_trans h2 h1,y2,rfl⟩)
 have A1:(A++[Value.bool false]).length=f+1:=by rw [List.length_append,hA]; rfl
 refine sU<|sC ?_
 refine sp rfl<|sp rfl<|sp rfl<|sP (.pointer (some ⟨gx,f+1,none⟩)) ?_
 refine Sy.callT (λw hw=>long_r w0.inn gc gr gx (f+1) tx (A++[Value.bool false]) (lPT ⟨0,0,false⟩++Z) sl1 s1 (R++N1) S hS1 A1 e1 (Nat.le_trans h1 hl) y1 w (by simpa only [List.append_assoc] using hw)) (λu M hM=>?_)
 obtain ⟨m,s2,sl2,cs2,N2,a2,n2,o2,⟨rfl,b1⟩,e2,h2,y2,rfl⟩:=hM
 have A2:(A++[Value.bool false]++[Value.int .u64 (m:Int)]).length=f+2:=by rw [List.length_append,A1,n2]
 refine Sy.permS (M:=CRS gc gr gx tx ((A++[Value.bool false]++[Value.int .u64 (m:Int)])++(lPT ⟨0,0,false⟩++Z)) sl2 s2.e (R++N1++N2)) (List.Perm.of_eq (by rw [List.append_assoc (A++[Value.bool false])])) ?_
 refine Sy.nil<|Sy.then_<|Sy.region ?_
 refine sp rfl<|sp rfl<|sp rfl<|sP (.pointer (some ⟨gx,f+2,none⟩))<|sS (Cu.pv 0 0 false) (Quiet.mid 1 gx (f+2) 9 tx 73 ((A++[Value.bool false]++[Value.int .u64 (m:Int)])++(lPT ⟨0,0,false⟩++Z)) (lPT ⟨0,0,false⟩) _ _ rfl kR rfl Tryz.underlying73 rfl kR (mid_cells A2 rfl) (mid_fit A2 rfl))<|sP (Cu.pv 0 0 false)<|sS (.bool true) (Quiet.pure (λw=>Cu.eql_pt w _ _ _ _ 0 0 false 0 0 false rfl rfl rfl (by decide) (by decide) (by decide) (by decide))) ?_
 have p5:(CRS gc gr gx tx ((A++[Value.bool false]++[Value.int .u64 (m:Int)])++(lPT ⟨0,0,false⟩++Z)) sl2 s2.e (R++N1++N2)).Perm (CRN gc gr sl2 s2.e ((gx,tx,((A++[Value.bool false]++[Value.int .u64 (m:Int)])++(lPT ⟨0,0,false⟩++Z)).toArray)::(R++N1++N2))):=swap23
 refine Sy.permS p5 ?_
 refine Sy.callT (λw hw=>must_r w0.inn gc gr sl2 s2.e e2 ((gx,tx,((A++[Value.bool false]++[Value.int .u64 (m:Int)])++(lPT ⟨0,0,false⟩++Z)).toArray)::(R++N1++N2)) true w hw) (λu M hM=>?_)
 subst hM
 rw [if_pos rfl]
 refine Sy.permS p5.symm ?_
 refine Sy.nil ?_
 ·have hAf:After rdAM s ⟨false,m,⟨0,0,false⟩⟩ s2:=a1.bind (by rw [if_neg (by decide)]; exact a2.bind (After.ret _ _))
  have hLn:([Value.bool false]++([Value.int .u64 (m:Int)]++lPT ⟨0,0,false⟩)).length=11:=by rw [List.length_append,List.length_append,n2]; rfl
  have hOn:∀ u∈([Value.bool false]++([Value.int .u64 (m:Int)]++lPT ⟨0,0,false⟩)),u.oneCell'=true:=ones_app o1 (ones_app o2 (lPT_one _))
  exact Sy.retT0 rfl (CRS gc gr gx tx (A++(([Value.bool false]++([Value.int .u64 (m:Int)]++lPT ⟨0,0,false⟩))++Z)) sl2 s2.e (R++(N1++N2))) (λ_ h=>by simpa only [List.append_assoc,List.cons_append,List.nil_append] using h) (λ_=>⟨_,s2,sl2,_,N1++N2,hAf,hLn,hOn,⟨rfl,b1,(show 0<Cu.K4 by decide),(show 0<Cu.K4 by decide)⟩,e2,Nat.le_trans h2 h1,y2,rfl⟩)
end Wr
end
section
namespace Wr
open Go.RowKit Sy
set_option maxRecDepth 100000
set_option maxHeartbeats 4000000
structure MOu where
 kind:Int
 asset:MTag
 amount:MAmt
 range:Byt
 surject:Byt
 note:Byt
 script:Byt
def okK (k:Int):Bool:=decide (1≤k) && decide (k≤4)
def cOU (o:MOu) (vr vs vn vc:Value):List Value:=[.int .i64 o.kind]++(cTG o.asset++(cAM o.amount++([vr]++([vs]++([vn]++[vc])))))
def repOU (C:Rdr) (cs:List Value) (o:MOu):Prop:=∃ vr vs vn vc,cs=cOU o vr vs vn vc∧(o.asset.id.length=32∧o.asset.pt.x<Cu.K4∧o.asset.pt.y<Cu.K4)∧(o.amount.value<18446744073709551616∧o.amount.pt.x<Cu.K4∧o.amount.pt.y<Cu.K4)∧BytR C vr o.range∧BytR C vs o.surject∧BytR C vn o.note∧BytR C vc o.script
theorem monoOU:Mono repOU:=λhl ⟨vr,vs,vn,vc,h1,h2,h3,h4,h5,h6,h7⟩=>⟨vr,vs,vn,vc,h1,h2,h3,h4.le hl,h5.le hl,h6.le hl,h7.le hl⟩
def encT (b:Byt):Byt:=varB b.length++b
def okOU (o:MOu):Bool:=okK o.kind && (okTG o.asset && (okAM o.amount && (decide (o.range.length≤6000) && (decide (o.surject.length≤6000) && (decide (o.note.length≤128) && decide (o.script.length≤256))))))
def encOU (o:MOu):Byt:=[octB o.kind]++(encTG o.asset++(encAM o.amount++(encT o.range++(encT o.surject++(encT o.note++encT o.script)))))
def wtOU (o:MOu):Nat:=1+(34+(34+((9+o.range.length)+((9+o.surject.length)+((9+o.note.length)+(9+o.script.length))))))
def rdOU:Ps MOu:=bindP octP λk=>bindP (mustP (okK k)) λ_=>bindP rdTG λa=>bindP rdAM λb=>bindP (textP 6000) λr=>bindP (textP 6000) λs=>bindP (textP 128) λn=>bindP (textP 256) λc=>retP ⟨k,a,b,r,s,n,c⟩
theorem okK_of {z:Int} (h:¬ (z=1∨z=2∨z=3∨z=4)):okK z=false:=by
 cases hb:okK z with
 | false=>rfl
 | true =>
  unfold okK at hb
  rw [Bool.and_eq_true,decide_eq_true_eq,decide_eq_true_eq] at hb
  exact (h (by omega)).elim
theorem okK_yes {z:Int} (h:z=1∨z=2∨z=3∨z=4):okK z=true∧okO z=true:=by rcases h with rfl | rfl | rfl | rfl <;> exact ⟨rfl,rfl⟩
theorem cTG_len {t:MTag} (h:t.id.length=32):(cTG t).length=42:=by unfold cTG; rw [List.length_append,List.length_append,List.length_map,h]; rfl
theorem out_w:PutO 65 58 repOU okOU encOU wtOU:=λw0 gc gw gx f bad s R b cs x hx _ hc hb hl w hw=>by
 obtain ⟨z,ta,am,rg,su,nt,sc⟩:=x
 obtain ⟨vr,vs,vn,vc,rfl,h1,h2,h3,h4,h5,h6⟩:=hx
 dsimp only at h1 h2 h3 h4 h5 h6
 unfold wtOU at hl
 dsimp only at hl
 have c0:OwnAt R gx f ([.int .i64 z]++(cTG ta++(cAM am++([vr]++([vs]++([vn]++[vc])))))):=hc
 have c1:OwnAt R gx (f+1) (cTG ta++(cAM am++([vr]++([vs]++([vn]++[vc]))))):=c0.right (n:=1) rfl
 have c2:OwnAt R gx (f+43) (cAM am++([vr]++([vs]++([vn]++[vc])))):=by have q:=c1.right (cTG_len h1.1); rwa [Nat.add_assoc] at q
 have c3:OwnAt R gx (f+54) ([vr]++([vs]++([vn]++[vc]))):=by have q:=c2.right (n:=11) rfl; rwa [Nat.add_assoc] at q
 have c4:OwnAt R gx (f+55) ([vs]++([vn]++[vc])):=c3.right (n:=1) rfl
 have c5:OwnAt R gx (f+56) ([vn]++[vc]):=c4.right (n:=1) rfl
 have c6:OwnAt R gx (f+57) [vc]:=c5.right (n:=1) rfl
 have X0:rdC w0.inn R gx f (.int .i64 z):=(c0.at w0.inn).one
 refine Sy.enterT (args:=[ptr gc,.pointer (some ⟨gx,f,none⟩)]) hw Tryz.func65 rfl kL ?_
 refine sC ?_
 refine sp rfl<|sp rfl<|sp rfl<|sP (.pointer (some ⟨gx,f,none⟩)) ?_
 refine Sy.callT (λw hw=>octet_w w0.inn gc gw gx f bad s R b z X0 hb (by omega) w hw) (λu M hM=>?_)
 obtain ⟨s1,bad1,b1,q1,p1,rfl⟩:=hM
 have l1:=q1.len
 refine sA ?_
 refine sp rfl<|sp rfl<|sP (.pointer (some ⟨gx,f,none⟩))<|sS (.int .i64 z) (cellC (R:=R) X0 inCW rfl Tryz.underlying3) ?_
 refine sG<|Sy.block<|Sy.seq<|Sy.block ?_
 by_cases hk:z=1∨z=2∨z=3∨z=4
 ·obtain ⟨k1,k2⟩:=okK_yes hk
  refine Sy.seq ?_
  refine cutC [(0,ptr gc),(1,.pointer (some ⟨gx,f,none⟩))] (CWS gc gw bad1 s1 R) ?_ ?_
  ·clear hl X0 c0 q1 k1 k2 hc
   rcases hk with rfl | rfl | rfl | rfl
   ·refine Sy.block<|Sy.block<|Sy.block<|Sy.block<|Sy.seq<|Sy.seq<|sC ?_
    refine sP (.bool true)<|sp rfl ?_
    refine sG<|sT<|Sy.exit<|Sy.then_exit<|Sy.then_exit<|Sy.in_exit<|Sy.in_<|Sy.in_<|Sy.in_ ?_
    exact meet (all_cons kR (all_cons kR all_nil)) (λ_ h=>h)
   ·refine Sy.block<|Sy.block<|Sy.block<|Sy.block<|Sy.seq<|Sy.seq<|sC ?_
    refine sP (.bool false)<|sp rfl ?_
    refine sG<|sU<|Sy.skip<|Sy.then_<|Sy.seq<|sC ?_
    refine sP (.bool true)<|sp rfl ?_
    refine sG<|sT<|Sy.exit<|Sy.then_exit<|Sy.then_exit ?_
    refine Sy.in_pass (by decide) ?_
    refine Sy.in_exit<|Sy.in_<|Sy.in_ ?_
    exact meet (all_cons kR (all_cons kR all_nil)) (λ_ h=>h)
   ·refine Sy.block<|Sy.block<|Sy.block<|Sy.block<|Sy.seq<|Sy.seq<|sC ?_
    refine sP (.bool false)<|sp rfl ?_
    refine sG<|sU<|Sy.skip<|Sy.then_<|Sy.seq<|sC ?_
    refine sP (.bool false)<|sp rfl ?_
    refine sG<|sU<|Sy.skip<|Sy.then_<|Sy.seq<|sC ?_
    refine sP (.bool true)<|sp rfl ?_
    refine sG<|sT<|Sy.exit<|Sy.then_exit<|Sy.then_exit ?_
    refine Sy.in_pass (by decide) ?_
    refine Sy.in_pass (by decide) ?_
    refine Sy.in_exit<|Sy.in_ ?_
    exact meet (all_cons kR (all_cons kR all_nil)) (λ_ h=>h)
   ·refine Sy.block<|Sy.block<|Sy.block<|Sy.block<|Sy.seq<|Sy.seq<|sC ?_
    refine sP (.bool false)<|sp rfl ?_
    refine sG<|sU<|Sy.skip<|Sy.then_<|Sy.seq<|sC ?_
    refine sP (.bool false)<|sp rfl ?_
    refine sG<|sU<|Sy.skip<|Sy.then_<|Sy.seq<|sC ?_
    refine sP (.bool false)<|sp rfl ?_
    refine sG<|sU<|Sy.skip<|Sy.then_<|sC ?_
    refine sP (.bool true)<|sp rfl ?_
    refine sG<|sT<|Sy.exit<|Sy.then_exit ?_
    refine Sy.in_pass (by decide) ?_
    refine Sy.in_pass (by decide) ?_
    refine Sy.in_pass (by decide) ?_
    refine Sy.in_exit ?_
    exact meet (all_cons kR (all_cons kR all_nil)) (λ_ h=>h)
  refine Sy.then_<|Sy.seq<|sC ?_
  refine sp rfl<|sp rfl<|sp rfl<|sP (.pointer (some ⟨gx,f+1,none⟩)) ?_
  refine Sy.callT (λw hw=>tag_w w0.inn gc gw gx (f+1) bad1 s1 R b1 (cTG ta) ta ⟨rfl,h1⟩ (cTG_len h1.1) c1.left p1 (by show _+34≤_; omega) w hw) (λu M hM=>?_)
  obtain ⟨s2,bad2,b2,q2,p2,rfl⟩:=hM
  have l2:b2.length≤b1.length+34:=q2.len
  refine sA ?_
  refine sp rfl<|sp rfl<|sp rfl<|sP (.pointer (some ⟨gx,f+43,none⟩)) ?_
  refine Sy.callT (λw hw=>amount_w w0.inn gc gw gx (f+43) bad2 s2 R b2 (cAM am) am ⟨rfl,h2⟩ rfl c2.left p2 (by show _+34≤_; omega) w hw) (λu M hM=>?_)
  obtain ⟨s3,bad3,b3,q3,p3,rfl⟩:=hM
  have l3:b3.length≤b2.length+34:=q3.len
  refine sA ?_
  refine sp rfl<|sp rfl<|sp rfl<|sP (.pointer (some ⟨gx,f+54,none⟩)) ?_
  refine Sy.callT (λw hw=>text_w w0.inn gc gw gx (f+54) bad3 s3 R b3 rg vr 6000 (by decide) h3 (c3.at w0.inn).one p3 (by omega) w hw) (λu M hM=>?_)
  obtain ⟨s4,bad4,b4,q4,p4,rfl⟩:=hM
  have l4:b4.length≤b3.length+(9+rg.length):=q4.len
  refine sA ?_
  refine sp rfl<|sp rfl<|sp rfl<|sP (.pointer (some ⟨gx,f+55,none⟩)) ?_
  refine Sy.callT (λw hw=>text_w w0.inn gc gw gx (f+55) bad4 s4 R b4 su vs 6000 (by decide) h4 (c4.at w0.inn).one p4 (by omega) w hw) (λu M hM=>?_)
  obtain ⟨s5,bad5,b5,q5,p5,rfl⟩:=hM
  have l5:b5.length≤b4.length+(9+su.length):=q5.len
  refine sA ?_
  refine sp rfl<|sp rfl<|sp rfl<|sP (.pointer (some ⟨gx,f+56,none⟩)) ?_
  refine Sy.callT (λw hw=>text_w w0.inn gc gw gx (f+56) bad5 s5 R b5 nt vn 128 (by decide) h5 (c5.at w0.inn).one p5 (by omega) w hw) (λu M hM=>?_)
  obtain ⟨s6,bad6,b6,q6,p6,rfl⟩:=hM
  have l6:b6.length≤b5.length+(9+nt.length):=q6.len
  refine Sy.nil<|Sy.then_<|Sy.region ?_
  refine sp rfl<|sp rfl<|sp rfl<|sP (.pointer (some ⟨gx,f+57,none⟩)) ?_
  refine Sy.callT (λw hw=>text_w w0.inn gc gw gx (f+57) bad6 s6 R b6 sc vc 256 (by decide) h6 (c6.at w0.inn).one p6 (by omega) w hw) (λu M hM=>?_)
  obtain ⟨s7,bad7,b7,q7,p7,rfl⟩:=hM
  have l7:b7.length≤b6.length+(9+sc.length):=q7.len
  refine Sy.nil<|Sy.then_<|Sy.exit ?_
  refine Sy.in_pass (by decide) ?_
  refine Sy.then_exit<|Sy.in_exit ?_
  have q:=q1.then_ (q2.then_ (q3.then_ (q4.then_ (q5.then_ (q6.then_ q7)))))
  rw [k2, ← k1] at q
  exact Sy.retT0 rfl (CWS gc gw bad7 s7 R) (λ_ h=>h) (λ_=>⟨s7,bad7,b7,q,p7,rfl⟩)
 refine Sy.seq<|Sy.block<|Sy.block<|Sy.block<|Sy.block<|Sy.seq<|Sy.seq<|sC ?_
 refine sS (.bool false) (Quiet.pure (exec_int .eql _ _ _ .i64 _ _ _ rfl rfl rfl (int_eql _ _ _ _ _ (decide_eq_false (λe=>hk (by simp [e]))))))<|sp rfl ?_
 refine sG<|sU<|Sy.skip<|Sy.then_<|Sy.seq<|sC ?_
 refine sS (.bool false) (Quiet.pure (exec_int .eql _ _ _ .i64 _ _ _ rfl rfl rfl (int_eql _ _ _ _ _ (decide_eq_false (λe=>hk (by simp [e]))))))<|sp rfl ?_
 refine sG<|sU<|Sy.skip<|Sy.then_<|Sy.seq<|sC ?_
 refine sS (.bool false) (Quiet.pure (exec_int .eql _ _ _ .i64 _ _ _ rfl rfl rfl (int_eql _ _ _ _ _ (decide_eq_false (λe=>hk (by simp [e]))))))<|sp rfl ?_
 refine sG<|sU<|Sy.skip<|Sy.then_<|sC ?_
 refine sS (.bool false) (Quiet.pure (exec_int .eql _ _ _ .i64 _ _ _ rfl rfl rfl (int_eql _ _ _ _ _ (decide_eq_false (λe=>hk (by simp [e]))))))<|sp rfl ?_
 refine sG<|sU<|Sy.skip<|Sy.then_<|Sy.exit ?_
 refine Sy.in_pass (by decide) ?_
 refine Sy.in_pass (by decide) ?_
 refine Sy.in_pass (by decide) ?_
 refine Sy.in_pass (by decide) ?_
 refine Sy.then_exit<|Sy.in_exit<|sB ?_
 refine sp rfl ?_
 refine Sy.callT (λw hw=>must_w w0.inn gc gw bad1 false s1 R w hw) (λu M hM=>?_)
 subst hM
 refine sG<|Sy.exit<|Sy.in_exit ?_
 have hno:okOU ⟨z,ta,am,rg,su,nt,sc⟩=false:=by unfold okOU; rw [okK_of hk]; rfl
 exact Sy.retT0 rfl (CWS gc gw (bad1 || !false) s1 R) (λ_ h=>h) (λ_=>⟨s1,bad1 || !false,b1,⟨by rw [hno]; cases bad1 <;> cases bad <;> rfl,λh=>(by cases bad1 <;> cases h),by unfold wtOU; dsimp only; omega⟩,p1,rfl⟩)
end Wr
end
section
namespace Wr
open Go.RowKit Sy
set_option maxRecDepth 100000
set_option maxHeartbeats 4000000
theorem opn_fe:Opn 71 4 (λ_ cs n=>cs=Cu.fws n∧n<Cu.K4) (λ_=>0):=⟨λ{H enc W fuel cs x} hl hf=>by
 match cs,hl with
 | [c0,c1,c2,c3],_ =>
  obtain ⟨n,h1,h2⟩:=Cu.words_trod Tryz.underlying71 Tryz.underlying22 (by kernel_rfl) hf
  refine ⟨n,⟨h2,h1⟩,λu hu=>?_,bulk_pos _⟩
  rw [h2] at hu
  simp only [Cu.fws,List.mem_cons,List.not_mem_nil,or_false] at hu
  rcases hu with rfl | rfl | rfl | rfl <;> rfl⟩
theorem opn_pt:Opn 73 9 repPT (λ_=>0):=(opn_s3 Tryz.underlying73 (by kernel_rfl) (by kernel_rfl) (by kernel_rfl) (by kernel_rfl) (by kernel_rfl) (by kernel_rfl) opn_fe opn_fe (opn_b Tryz.underlying4)).as λC cs (x,y,i) ⟨a0,a1,a2,e,⟨e0,h0⟩,⟨e1,h1⟩,e2⟩=>by
 obtain rfl:a2=[.bool i]:=e2
 subst e0 e1 e
 exact ⟨⟨x,y,i⟩,⟨rfl,h0,h1⟩,Nat.zero_le _⟩
theorem opn_tag:Opn 86 42 repTG (λ_=>0):=(opn_s3 Tryz.underlying86 (by kernel_rfl) (by kernel_rfl) (by kernel_rfl) (by kernel_rfl) (by kernel_rfl) (by kernel_rfl) (opn_b Tryz.underlying4) opn_dg opn_pt).as λC cs (b,d,p) ⟨a0,a1,a2,e,e0,⟨e1,h1⟩,⟨e2,h2⟩⟩=>by
 obtain rfl:a0=[.bool b]:=e0
 subst e1 e2 e
 exact ⟨⟨b,d,p⟩,⟨rfl,h1,h2⟩,Nat.zero_le _⟩
theorem opn_amt:Opn 75 11 repAM (λ_=>0):=(opn_s3 Tryz.underlying75 (by kernel_rfl) (by kernel_rfl) (by kernel_rfl) (by kernel_rfl) (by kernel_rfl) (by kernel_rfl) (opn_b Tryz.underlying4) opn_u64 opn_pt).as λC cs (b,d,p) ⟨a0,a1,a2,e,e0,⟨e1,h1⟩,⟨e2,h2⟩⟩=>by
 obtain rfl:a0=[.bool b]:=e0
 subst e1 e2 e
 exact ⟨⟨b,d,p⟩,⟨rfl,h1,h2⟩,Nat.zero_le _⟩
theorem opn_out:Opn 88 58 repOU (λo=>o.range.length+o.surject.length+o.note.length+o.script.length):=(opn_s7 Tryz.underlying88 (by kernel_rfl) (by kernel_rfl) (by kernel_rfl) (by kernel_rfl) (by kernel_rfl) (by kernel_rfl) (by kernel_rfl) (by kernel_rfl) (by kernel_rfl) (by kernel_rfl) (by kernel_rfl) (by kernel_rfl) (by kernel_rfl) (by kernel_rfl) (opn_i Tryz.underlying3) opn_tag opn_amt opn_raw opn_raw opn_raw opn_raw).as λC cs (k,t,a,r,s,n,c) ⟨a0,a1,a2,a3,a4,a5,a6,ec,e0,⟨e1,h1⟩,⟨e2,h2⟩,⟨v3,e3,h3⟩,⟨v4,e4,h4⟩,⟨v5,e5,h5⟩,⟨v6,e6,h6⟩⟩=>by
 obtain rfl:a0=[.int .i64 k]:=e0
 dsimp only at e1 e2 e3 e4 e5 e6 h1 h2 h3 h4 h5 h6
 subst e1 e2 e3 e4 e5 e6 ec
 exact ⟨⟨k,t,a,r,s,n,c⟩,⟨v3,v4,v5,v6,rfl,h1,h2,h3,h4,h5,h6⟩,by dsimp only; omega⟩
end Wr
end
section
namespace Wr
open Go.RowKit Sy
set_option maxRecDepth 100000
set_option maxHeartbeats 4000000
theorem ones_bV (x:Byt):∀ u∈x.map bv,u.oneCell'=true:=λu hu=>by obtain ⟨y,_,rfl⟩:=List.mem_map.1 hu; rfl
theorem header_r:GetC 72 102 (Z32++([Value.int .u64 0]++([Value.int .u64 0]++(Z32++(Z32++([Value.slice none 0 0]++([Value.bool false]++([Value.int .i64 0]++[Value.slice none 0 0])))))))) repHE rdHE:=λw0 gc gr gx f tx A Z sl s R S hS hA he hl hv w hw=>by
 refine Sy.enterT (args:=[ptr gc,.pointer (some ⟨gx,f,none⟩)]) hw Tryz.func72 rfl kL ?_
 refine sC ?_
 refine sp rfl<|sp rfl<|sp rfl<|sP (.pointer (some ⟨gx,f,none⟩)) ?_
 refine Sy.callT (λw hw=>digest_r w0.inn gc gr gx f tx (A) ([Value.int .u64 0]++([Value.int .u64 0]++(Z32++(Z32++([Value.slice none 0 0]++([Value.bool false]++(([Value.int .i64 0]++[Value.slice none 0 0])++Z))))))) sl s (R) S hS hA he (hl) hv w (by simpa only [List.append_assoc] using hw)) (λu M hM=>?_)
 obtain ⟨x1,s1,sl1,cs1,N1,a1,n1,o1,⟨rfl,r1⟩,e1,h1,y1,rfl⟩:=hM
 have g1:s1.rest.length≤s.rest.length:=h1
 have A1:(A++(x1.map bv)).length=f+32:=by rw [List.length_append,hA,n1]
 refine sA ?_
 refine sp rfl<|sp rfl<|sp rfl<|sP (.pointer (some ⟨gx,f+32,none⟩)) ?_
 refine Sy.callT (λw hw=>long_r w0.inn gc gr gx (f+32) tx (A++(x1.map bv)) ([Value.int .u64 0]++(Z32++(Z32++([Value.slice none 0 0]++([Value.bool false]++(([Value.int .i64 0]++[Value.slice none 0 0])++Z)))))) sl1 s1 (R++N1) S (λb h=>List.mem_append_left _ (hS b h)) A1 e1 (Nat.le_trans g1 hl) y1 w (by have e:A++(x1.map bv)++([Value.int .u64 0]++([Value.int .u64 0]++(Z32++(Z32++([Value.slice none 0 0]++([Value.bool false]++(([Value.int .i64 0]++[Value.slice none 0 0])++Z)))))))=A++(x1.map bv++([Value.int .u64 0]++([Value.int .u64 0]++(Z32++(Z32++([Value.slice none 0 0]++([Value.bool false]++(([Value.int .i64 0]++[Value.slice none 0 0])++Z)))))))):=List.append_assoc ..; rw [e]; exact hw)) (λu M hM=>?_)
 obtain ⟨x2,s2,sl2,cs2,N2,a2,n2,o2,⟨rfl,r2⟩,e2,h2,y2,rfl⟩:=hM
 have g2:s2.rest.length≤s.rest.length:=Nat.le_trans h2 g1
 have A2:(A++(x1.map bv)++[Value.int .u64 (x2:Int)]).length=f+33:=by rw [List.length_append,A1,n2]
 refine sA ?_
 refine sp rfl<|sp rfl<|sp rfl<|sP (.pointer (some ⟨gx,f+33,none⟩)) ?_
 refine Sy.callT (λw hw=>long_r w0.inn gc gr gx (f+33) tx (A++(x1.map bv)++[Value.int .u64 (x2:Int)]) (Z32++(Z32++([Value.slice none 0 0]++([Value.bool false]++(([Value.int .i64 0]++[Value.slice none 0 0])++Z))))) sl2 s2 (R++N1++N2) S (λb h=>List.mem_append_left _ (List.mem_append_left _ (hS b h))) A2 e2 (Nat.le_trans g2 hl) y2 w (by have e:A++(x1.map bv)++[Value.int .u64 (x2:Int)]++([Value.int .u64 0]++(Z32++(Z32++([Value.slice none 0 0]++([Value.bool false]++(([Value.int .i64 0]++[Value.slice none 0 0])++Z))))))=A++(x1.map bv)++([Value.int .u64 (x2:Int)]++([Value.int .u64 0]++(Z32++(Z32++([Value.slice none 0 0]++([Value.bool false]++(([Value.int .i64 0]++[Value.slice none 0 0])++Z))))))):=List.append_assoc ..; rw [e]; exact hw)) (λu M hM=>?_)
 obtain ⟨x3,s3,sl3,cs3,N3,a3,n3,o3,⟨rfl,r3⟩,e3,h3,y3,rfl⟩:=hM
 have g3:s3.rest.length≤s.rest.length:=Nat.le_trans h3 g2
 have A3:(A++(x1.map bv)++[Value.int .u64 (x2:Int)]++[Value.int .u64 (x3:Int)]).length=f+34:=by rw [List.length_append,A2,n3]
 refine sA ?_
 refine sp rfl<|sp rfl<|sp rfl<|sP (.pointer (some ⟨gx,f+34,none⟩)) ?_
 refine Sy.callT (λw hw=>digest_r w0.inn gc gr gx (f+34) tx (A++(x1.map bv)++[Value.int .u64 (x2:Int)]++[Value.int .u64 (x3:Int)]) (Z32++([Value.slice none 0 0]++([Value.bool false]++(([Value.int .i64 0]++[Value.slice none 0 0])++Z)))) sl3 s3 (R++N1++N2++N3) S (λb h=>List.mem_append_left _ (List.mem_append_left _ (List.mem_append_left _ (hS b h)))) A3 e3 (Nat.le_trans g3 hl) y3 w (by have e:A++(x1.map bv)++[Value.int .u64 (x2:Int)]++[Value.int .u64 (x3:Int)]++(Z32++(Z32++([Value.slice none 0 0]++([Value.bool false]++(([Value.int .i64 0]++[Value.slice none 0 0])++Z)))))=A++(x1.map bv)++[Value.int .u64 (x2:Int)]++([Value.int .u64 (x3:Int)]++(Z32++(Z32++([Value.slice none 0 0]++([Value.bool false]++(([Value.int .i64 0]++[Value.slice none 0 0])++Z)))))):=List.append_assoc ..; rw [e]; exact hw)) (λu M hM=>?_)
 obtain ⟨x4,s4,sl4,cs4,N4,a4,n4,o4,⟨rfl,r4⟩,e4,h4,y4,rfl⟩:=hM
 have g4:s4.rest.length≤s.rest.length:=Nat.le_trans h4 g3
 have A4:(A++(x1.map bv)++[Value.int .u64 (x2:Int)]++[Value.int .u64 (x3:Int)]++(x4.map bv)).length=f+66:=by rw [List.length_append,A3,n4]
 refine sA ?_
 refine sp rfl<|sp rfl<|sp rfl<|sP (.pointer (some ⟨gx,f+66,none⟩)) ?_
 refine Sy.callT (λw hw=>digest_r w0.inn gc gr gx (f+66) tx (A++(x1.map bv)++[Value.int .u64 (x2:Int)]++[Value.int .u64 (x3:Int)]++(x4.map bv)) ([Value.slice none 0 0]++([Value.bool false]++(([Value.int .i64 0]++[Value.slice none 0 0])++Z))) sl4 s4 (R++N1++N2++N3++N4) S (λb h=>List.mem_append_left _ (List.mem_append_left _ (List.mem_append_left _ (List.mem_append_left _ (hS b h))))) A4 e4 (Nat.le_trans g4 hl) y4 w (by have e:A++(x1.map bv)++[Value.int .u64 (x2:Int)]++[Value.int .u64 (x3:Int)]++(x4.map bv)++(Z32++([Value.slice none 0 0]++([Value.bool false]++(([Value.int .i64 0]++[Value.slice none 0 0])++Z))))=A++(x1.map bv)++[Value.int .u64 (x2:Int)]++[Value.int .u64 (x3:Int)]++(x4.map bv++(Z32++([Value.slice none 0 0]++([Value.bool false]++(([Value.int .i64 0]++[Value.slice none 0 0])++Z))))):=List.append_assoc ..; rw [e]; exact hw)) (λu M hM=>?_)
 obtain ⟨x5,s5,sl5,cs5,N5,a5,n5,o5,⟨rfl,r5⟩,e5,h5,y5,rfl⟩:=hM
 have g5:s5.rest.length≤s.rest.length:=Nat.le_trans h5 g4
 have A5:(A++(x1.map bv)++[Value.int .u64 (x2:Int)]++[Value.int .u64 (x3:Int)]++(x4.map bv)++(x5.map bv)).length=f+98:=by rw [List.length_append,A4,n5]
 refine sA ?_
 refine sp rfl<|sp rfl<|sp rfl<|sP (.pointer (some ⟨gx,f+98,none⟩)) ?_
 refine Sy.callT (λw hw=>text_r 256 (by decide) w0.inn gc gr gx (f+98) tx (A++(x1.map bv)++[Value.int .u64 (x2:Int)]++[Value.int .u64 (x3:Int)]++(x4.map bv)++(x5.map bv)) ([Value.bool false]++(([Value.int .i64 0]++[Value.slice none 0 0])++Z)) sl5 s5 (R++N1++N2++N3++N4++N5) S (λb h=>List.mem_append_left _ (List.mem_append_left _ (List.mem_append_left _ (List.mem_append_left _ (List.mem_append_left _ (hS b h)))))) A5 e5 (Nat.le_trans g5 hl) y5 w (by have e:A++(x1.map bv)++[Value.int .u64 (x2:Int)]++[Value.int .u64 (x3:Int)]++(x4.map bv)++(x5.map bv)++([Value.slice none 0 0]++([Value.bool false]++(([Value.int .i64 0]++[Value.slice none 0 0])++Z)))=A++(x1.map bv)++[Value.int .u64 (x2:Int)]++[Value.int .u64 (x3:Int)]++(x4.map bv)++(x5.map bv++([Value.slice none 0 0]++([Value.bool false]++(([Value.int .i64 0]++[Value.slice none 0 0])++Z)))):=List.append_assoc ..; rw [e]; exact hw)) (λu M hM=>?_)
 obtain ⟨x6,s6,sl6,cs6,N6,a6,n6,o6,⟨v6,rfl,r6⟩,e6,h6,y6,rfl⟩:=hM
 have g6:s6.rest.length≤s.rest.length:=Nat.le_trans h6 g5
 have A6:(A++(x1.map bv)++[Value.int .u64 (x2:Int)]++[Value.int .u64 (x3:Int)]++(x4.map bv)++(x5.map bv)++[v6]).length=f+99:=by rw [List.length_append,A5,n6]
 refine sA ?_
 refine sp rfl<|sp rfl<|sp rfl<|sP (.pointer (some ⟨gx,f+99,none⟩)) ?_
 refine Sy.callT (λw hw=>truth_r w0.inn gc gr gx (f+99) tx (A++(x1.map bv)++[Value.int .u64 (x2:Int)]++[Value.int .u64 (x3:Int)]++(x4.map bv)++(x5.map bv)++[v6]) (([Value.int .i64 0]++[Value.slice none 0 0])++Z) sl6 s6 (R++N1++N2++N3++N4++N5++N6) S (λb h=>List.mem_append_left _ (List.mem_append_left _ (List.mem_append_left _ (List.mem_append_left _ (List.mem_append_left _ (List.mem_append_left _ (hS b h))))))) A6 e6 (Nat.le_trans g6 hl) y6 w (by have e:A++(x1.map bv)++[Value.int .u64 (x2:Int)]++[Value.int .u64 (x3:Int)]++(x4.map bv)++(x5.map bv)++[v6]++([Value.bool false]++(([Value.int .i64 0]++[Value.slice none 0 0])++Z))=A++(x1.map bv)++[Value.int .u64 (x2:Int)]++[Value.int .u64 (x3:Int)]++(x4.map bv)++(x5.map bv)++([v6]++([Value.bool false]++(([Value.int .i64 0]++[Value.slice none 0 0])++Z))):=List.append_assoc ..; rw [e]; exact hw)) (λu M hM=>?_)
 obtain ⟨x7,s7,sl7,cs7,N7,a7,n7,o7,rfl,e7,h7,y7,rfl⟩:=hM
 have g7:s7.rest.length≤s.rest.length:=Nat.le_trans h7 g6
 have A7:(A++(x1.map bv)++[Value.int .u64 (x2:Int)]++[Value.int .u64 (x3:Int)]++(x4.map bv)++(x5.map bv)++[v6]++[Value.bool x7]).length=f+100:=by rw [List.length_append,A6,n7]
 refine sA ?_
 refine sp rfl<|sp rfl<|sP (.pointer (some ⟨gx,f+99,none⟩))<|sS (.bool x7) (Quiet.cell 1 gx (f+99) tx 4 (A++(x1.map bv)++[Value.int .u64 (x2:Int)]++[Value.int .u64 (x3:Int)]++(x4.map bv)++(x5.map bv)++[v6]++([Value.bool x7]++(([Value.int .i64 0]++[Value.slice none 0 0])++Z))).toArray _ _ rfl kR rfl Tryz.underlying4 rfl _ (by rw [List.getElem?_toArray,List.getElem?_append_right (by omega),A6,show f+99 - (f+99)=0 by omega]; rfl)) ?_
 refine sG ?_
 cases x7
 case' true =>
  refine sT<|Sy.region ?_
  refine sp rfl<|sp rfl<|sp rfl<|sP (.pointer (some ⟨gx,f+100,none⟩)) ?_
  refine Sy.callT (λw hw=>params_r w0.inn gc gr gx (f+100) tx (A++(x1.map bv)++[Value.int .u64 (x2:Int)]++[Value.int .u64 (x3:Int)]++(x4.map bv)++(x5.map bv)++[v6]++[Value.bool true]) Z sl7 s7 (R++N1++N2++N3++N4++N5++N6++N7) S (λb h=>List.mem_append_left _ (List.mem_append_left _ (List.mem_append_left _ (List.mem_append_left _ (List.mem_append_left _ (List.mem_append_left _ (List.mem_append_left _ (hS b h)))))))) A7 e7 (Nat.le_trans g7 hl) y7 w (by have e:A++(x1.map bv)++[Value.int .u64 (x2:Int)]++[Value.int .u64 (x3:Int)]++(x4.map bv)++(x5.map bv)++[v6]++[Value.bool true]++(([Value.int .i64 0]++[Value.slice none 0 0])++Z)=A++(x1.map bv)++[Value.int .u64 (x2:Int)]++[Value.int .u64 (x3:Int)]++(x4.map bv)++(x5.map bv)++[v6]++([Value.bool true]++(([Value.int .i64 0]++[Value.slice none 0 0])++Z)):=List.append_assoc ..; rw [e]; exact hw)) (λu M hM=>?_)
  obtain ⟨⟨x8,ks⟩,s8,sl8,cs8,N8,a8,n8,o8,⟨v8,rfl,r8⟩,e8,h8,y8,rfl⟩:=hM
  refine Sy.nil ?_
  have hAf:After rdHE s ⟨x1,x2,x3,x4,x5,x6,true,⟨x8,ks⟩⟩ s8:=a1.bind (a2.bind (a3.bind (a4.bind (a5.bind (a6.bind (a7.bind (After.bind (by rw [if_pos rfl]; exact a8) (After.ret _ _))))))))
  have hLn:(x1.map bv++([Value.int .u64 (x2:Int)]++([Value.int .u64 (x3:Int)]++(x4.map bv++(x5.map bv++([v6]++([Value.bool true]++([Value.int .i64 x8]++[v8])))))))).length=102:=(by simp only [List.length_append,n1,n4,n5]; rfl)
  have hOn:∀ u∈(x1.map bv++([Value.int .u64 (x2:Int)]++([Value.int .u64 (x3:Int)]++(x4.map bv++(x5.map bv++([v6]++([Value.bool true]++([Value.int .i64 x8]++[v8])))))))),u.oneCell'=true:=ones_app o1 (ones_app o2 (ones_app o3 (ones_app o4 (ones_app o5 (ones_app o6 (ones_app o7 (onePA ⟨v8,rfl,r8⟩)))))))
  have hRp:repHE (rdB (N1++(N2++(N3++(N4++(N5++(N6++(N7++N8)))))))) (x1.map bv++([Value.int .u64 (x2:Int)]++([Value.int .u64 (x3:Int)]++(x4.map bv++(x5.map bv++([v6]++([Value.bool true]++([Value.int .i64 x8]++[v8])))))))) ⟨x1,x2,x3,x4,x5,x6,true,⟨x8,ks⟩⟩:=⟨v6,v8,rfl,r1,r4,r5,r2,r3,r6.le (rdB_le λb h=>by simp [h]),LstR.le (rep:=repDG) monoDG (rdB_le λb h=>by simp [h]) r8⟩
  exact Sy.retT0 rfl (CRS gc gr gx tx (A++((x1.map bv++([Value.int .u64 (x2:Int)]++([Value.int .u64 (x3:Int)]++(x4.map bv++(x5.map bv++([v6]++([Value.bool true]++([Value.int .i64 x8]++[v8]))))))))++Z)) sl8 s8.e (R++(N1++(N2++(N3++(N4++(N5++(N6++(N7++N8))))))))) (λ_ h=>by simpa only [List.append_assoc,List.cons_append,List.nil_append] using h) (λ_=>⟨_,s8,sl8,_,_,hAf,hLn,hOn,hRp,e8,Nat.le_trans h8 g7,y8,rfl⟩)
 refine sU<|Sy.region ?_
 refine sp rfl<|sp rfl<|sp rfl<|sP (.pointer (some ⟨gx,f+100,none⟩))<|sP (.pointer (some ⟨gx,f+100,none⟩))<|sS (.int .i64 0) (Quiet.cell 1 gx (f+100) tx 3 (A++(x1.map bv)++[Value.int .u64 (x2:Int)]++[Value.int .u64 (x3:Int)]++(x4.map bv)++(x5.map bv)++[v6]++([Value.bool false]++(([Value.int .i64 0]++[Value.slice none 0 0])++Z))).toArray _ _ rfl kR rfl Tryz.underlying3 rfl _ (by rw [List.getElem?_toArray,List.getElem?_append_right (by omega),A6,show f+100 - (f+99)=1 by omega]; rfl))<|sP (.bool true)<|sp rfl ?_
 refine sp rfl<|sp rfl<|sP (.pointer (some ⟨gx,f+100,none⟩))<|sP (.pointer (some ⟨gx,f+101,none⟩))<|sS (.slice none 0 0) (Quiet.cell 1 gx (f+101) tx 30 (A++(x1.map bv)++[Value.int .u64 (x2:Int)]++[Value.int .u64 (x3:Int)]++(x4.map bv)++(x5.map bv)++[v6]++([Value.bool false]++(([Value.int .i64 0]++[Value.slice none 0 0])++Z))).toArray _ _ rfl kR rfl Tryz.underlying30 rfl _ (by rw [List.getElem?_toArray,List.getElem?_append_right (by omega),A6,show f+101 - (f+99)=2 by omega]; rfl))<|sP (.int .i64 0)<|sP (.bool true)<|sP (.bool true) ?_
 refine Sy.permS (M:=CRN gc gr sl7 s7.e ((gx,tx,(A++(x1.map bv)++[Value.int .u64 (x2:Int)]++[Value.int .u64 (x3:Int)]++(x4.map bv)++(x5.map bv)++[v6]++([Value.bool false]++(([Value.int .i64 0]++[Value.slice none 0 0])++Z))).toArray)::(R++N1++N2++N3++N4++N5++N6++N7))) swap23 ?_
 refine Sy.callT (λw hw=>must_r w0.inn gc gr sl7 s7.e e7 ((gx,tx,(A++(x1.map bv)++[Value.int .u64 (x2:Int)]++[Value.int .u64 (x3:Int)]++(x4.map bv)++(x5.map bv)++[v6]++([Value.bool false]++(([Value.int .i64 0]++[Value.slice none 0 0])++Z))).toArray)::(R++N1++N2++N3++N4++N5++N6++N7)) true w hw) (λu M hM=>?_)
 subst hM
 rw [if_pos rfl]
 refine Sy.permS (M:=CRS gc gr gx tx (A++(x1.map bv)++[Value.int .u64 (x2:Int)]++[Value.int .u64 (x3:Int)]++(x4.map bv)++(x5.map bv)++[v6]++([Value.bool false]++(([Value.int .i64 0]++[Value.slice none 0 0])++Z))) sl7 s7.e (R++N1++N2++N3++N4++N5++N6++N7)) swap23 ?_
 refine Sy.nil ?_
 ·have hAf:After rdHE s ⟨x1,x2,x3,x4,x5,x6,false,⟨0,[]⟩⟩ s7:=a1.bind (a2.bind (a3.bind (a4.bind (a5.bind (a6.bind (a7.bind (After.bind (by rw [if_neg (by decide)]; exact After.ret _ _) (After.ret _ _))))))))
  have hLn:(x1.map bv++([Value.int .u64 (x2:Int)]++([Value.int .u64 (x3:Int)]++(x4.map bv++(x5.map bv++([v6]++([Value.bool false]++([Value.int .i64 0]++[Value.slice none 0 0])))))))).length=102:=(by simp only [List.length_append,n1,n4,n5]; rfl)
  have hOn:∀ u∈(x1.map bv++([Value.int .u64 (x2:Int)]++([Value.int .u64 (x3:Int)]++(x4.map bv++(x5.map bv++([v6]++([Value.bool false]++([Value.int .i64 0]++[Value.slice none 0 0])))))))),u.oneCell'=true:=ones_app o1 (ones_app o2 (ones_app o3 (ones_app o4 (ones_app o5 (ones_app o6 (ones_app o7 (onePA (C:=rdB []) (t:=⟨0,[]⟩) ⟨_,rfl,none,0,0,rfl,rfl,Nat.le_refl _,Nat.zero_le _,λh=>(h rfl).elim⟩)))))))
  have hRp:repHE (rdB (N1++(N2++(N3++(N4++(N5++(N6++N7))))))) (x1.map bv++([Value.int .u64 (x2:Int)]++([Value.int .u64 (x3:Int)]++(x4.map bv++(x5.map bv++([v6]++([Value.bool false]++([Value.int .i64 0]++[Value.slice none 0 0])))))))) ⟨x1,x2,x3,x4,x5,x6,false,⟨0,[]⟩⟩:=⟨v6,Value.slice none 0 0,rfl,r1,r4,r5,r2,r3,r6.le (rdB_le λb h=>by simp [h]),⟨none,0,0,rfl,rfl,Nat.le_refl _,Nat.zero_le _,λh=>(h rfl).elim⟩⟩
  exact Sy.retT0 rfl (CRS gc gr gx tx (A++((x1.map bv++([Value.int .u64 (x2:Int)]++([Value.int .u64 (x3:Int)]++(x4.map bv++(x5.map bv++([v6]++([Value.bool false]++([Value.int .i64 0]++[Value.slice none 0 0]))))))))++Z)) sl7 s7.e (R++(N1++(N2++(N3++(N4++(N5++(N6++N7)))))))) (λ_ h=>by simpa only [List.append_assoc,List.cons_append,List.nil_append] using h) (λ_=>⟨_,s7,sl7,_,_,hAf,hLn,hOn,hRp,e7,g7,y7,rfl⟩)
theorem oneHE {C:Rdr} {cs:List Value} {t:MHe} (h:repHE C cs t):∀ u∈cs,u.oneCell'=true:=by
 obtain ⟨vr,vk,rfl,_,_,_,_,_,h1,h2⟩:=h
 exact ones_app (ones_bV _) (ones_app (λu hu=>by rw [List.mem_singleton.1 hu]; rfl) (ones_app (λu hu=>by rw [List.mem_singleton.1 hu]; rfl) (ones_app (ones_bV _) (ones_app (ones_bV _) (ones_app (λu hu=>by rw [List.mem_singleton.1 hu]; exact h1.cells.2) (ones_app (λu hu=>by rw [List.mem_singleton.1 hu]; rfl) (ones_app (λu hu=>by rw [List.mem_singleton.1 hu]; rfl) (λu hu=>by rw [List.mem_singleton.1 hu]; exact h2.cells.2))))))))
theorem write_hdr {α:Type} {rep:Rdr→List Value→α→Prop} {ok:α→Bool} {enc:α→Byt} {wt:α→Nat} (hm:Mono rep) (hp:PutO 72 102 rep ok enc wt) (w:World) (cs:List Value) (x:α) (hx:rep (rdW w) cs x) (hl:cs.length=102) (hwt:wt x≤70368744170000) :
  Calls Tryz.prog 80 #[.agg cs.toArray,.func (.func 72) #[] #[]] w (GetsN w (BytE (ok x) (enc x))):=by
 refine Sy.enter (args:=[.agg cs.toArray,.func (.func 72) #[] #[]]) Tryz.func80 rfl kL ?_
 refine sC ?_
 refine sM 34 cs.toArray (λgx=>?_) kR (λw=>run_boxR rfl rfl (by kernel_rfl) hl w)
 refine sP (.slice none 0 0)<|sP (.int .i64 0) ?_
 refine sA ?_
 refine Sy.callN kR 59 #[] kF _ (λw _=>new_any w) (λv M hM=>?_)
 obtain ⟨gw,rfl,rfl⟩:=hM
 refine sP (.agg #[ptr gw,.pointer none,.bool false])<|sM 126 #[ptr gw,.pointer none,.bool false] (λgc=>?_)
 refine sp rfl ?_
 refine sA ?_
 refine Sy.permS (M:=CWS gc gw false nilS [(gx,34,cs.toArray)]) (Sy.perm_at [2,1,0] (by kernel_rfl) (by rfl)) ?_
 refine sp rfl<|sp rfl ?_
 refine Sy.callT (λw' hw=>hp (Base.of w) gc gw gx 0 false nilS [(gx,34,cs.toArray)] [] cs x (hm rdW_base hx) hl (ownX (List.mem_singleton.2 rfl)) BS.nil (by show 0+_≤_; omega) w' hw) (λv M hM=>?_)
 obtain ⟨s,bad,b,q1,q2,rfl⟩:=hM
 have hbl:b.length≤wt x:=by have:=q1.len; simpa using this
 refine sG<|Sy.seq<|sC ?_
 refine sp rfl<|sp rfl<|sP (.pointer (some ⟨gc,2,none⟩))<|sS (.bool bad) (qc 0 2 rfl rfl Tryz.underlying4) ?_
 refine sG ?_
 cases bad
 ·have hok:ok x=true:=by
   have e:=q1.bad
   cases h:ok x with
   | true=>rfl
   | false=>rw [h] at e; cases e
  obtain rfl:b=enc x:=by have:=q1.bytes rfl; simpa using this
  refine sU<|Sy.skip<|sB ?_
  refine sp rfl<|sp rfl<|sP (.pointer (some ⟨gc,0,none⟩))<|sS (ptr gw) (qc 0 0 rfl rfl Tryz.underlying122) ?_
  refine Sy.callT (λw' hw=>bytes_any (Base.of w) gw s ((gc,126,#[ptr gw,.pointer none,.bool false])::[(gx,34,cs.toArray)]) (enc x) q2 (by omega) w' (hw.perm permCW)) (λv M hM=>?_)
  obtain ⟨N,hN,rfl⟩:=hM
  refine sp rfl<|sP (.int .i64 0) ?_
  refine sG<|Sy.ret ?_
  exact Sy.retGM2 N rfl (.inl (show _=_ by kernel_rfl)) (.inl (show _=_ by kernel_rfl)) (λ_ h=>h.less (List.sublist_append_right _ _)) (.inl ⟨hok,v,rfl,hN⟩)
 ·have hok:ok x=false:=by
   have e:=q1.bad
   cases h:ok x with
   | false=>rfl
   | true=>rw [h] at e; cases e
  refine sT<|sC ?_
  refine sP (.slice none 0 0)<|sP (.int .i64 120) ?_
  refine sG<|Sy.ret<|Sy.then_ret ?_
  exact Sy.retGM2 [] rfl (.inl (show _=_ by kernel_rfl)) (.inl (show _=_ by kernel_rfl)) (λ_ h=>h.none) (.inr ⟨hok,rfl,rfl⟩)
theorem ex_hdr {α:Type} {rep:Rdr→List Value→α→Prop} {ok:α→Bool} {enc:α→Byt} {wt:α→Nat} (hm:Mono rep) (hp:PutO 72 102 rep ok enc wt) (w:World) (cs:List Value) (x:α) (hx:rep (rdW w) cs x) (hl:cs.length=102) (hwt:wt x≤70368744170000) :
  Calls Tryz.prog 40 #[.agg cs.toArray] w (GetsN w (BytE (ok x) (enc x))):=by
 refine Sy.enter (args:=[.agg cs.toArray]) Tryz.func40 rfl kL ?_
 refine sC ?_
 refine sM 34 cs.toArray (λgx=>?_) kR (λw=>run_boxR rfl rfl (by kernel_rfl) hl w)
 refine sP (.slice none 0 0)<|sP (.int .i64 0) ?_
 refine sA ?_
 refine sS (.agg cs.toArray) (rowC (R:=[(gx,34,cs.toArray)]) (memX (List.mem_singleton.2 rfl)) (λ_ h=>h) hl rfl Tryz.underlying34) ?_
 refine Sy.callN kR 80 #[.agg cs.toArray,.func (.func 72) #[] #[]] kF (BytE (ok x) (enc x)) (λw' hw=>write_hdr (rep:=rep) hm hp w' cs x (hm (λg o u h=>rdC_world (R:=[]) hw (λ_ h=>by cases h) g o u (.inl h)) hx) hl hwt) (λv M hM=>?_)
 have hv:∃ a e:Value,v=.tuple #[a,e]:=by
  rcases hM with ⟨_,u,rfl,_⟩ | ⟨_,rfl,_⟩ <;> exact ⟨_,_,rfl⟩
 obtain ⟨a,e,rfl⟩:=hv
 refine sp rfl<|sp rfl<|sp rfl<|sp rfl ?_
 refine sG<|Sy.ret ?_
 exact Sy.retGM2 M rfl (.inl (show _=_ by kernel_rfl)) (.inl (show _=_ by kernel_rfl)) (λ_ h=>h.less (List.sublist_append_right _ _)) hM
end Wr
end
section
namespace Wr
open Go.RowKit Sy
set_option maxRecDepth 100000
set_option maxHeartbeats 4000000
theorem After.mustX {α:Type} (f:Unit→Ps α) (y:α) {s s':RS} (h:s'.e≠0):After (bindP (mustP false) f) s y s':=⟨λ_=>h,λz r _ hp=>(by cases hp),λ_ _=>h⟩
theorem After.mustY {α:Type} {f:Unit→Ps α} {b:Bool} {y:α} {s s':RS} (hb:b=true) (h:After (f ()) s y s'):After (bindP (mustP b) f) s y s':=by subst hb; exact h
theorem one_ni:∀ u∈[Value.slice none 0 0],u.oneCell'=true:=λu hu=>by rw [List.mem_singleton.1 hu]; rfl
theorem out_r:GetC 65 58 ([Value.int .i64 0]++(([Value.bool false]++(Z32++lPT ⟨0,0,false⟩))++(([Value.bool false]++([Value.int .u64 0]++lPT ⟨0,0,false⟩))++([Value.slice none 0 0]++([Value.slice none 0 0]++([Value.slice none 0 0]++([Value.slice none 0 0]))))))) repOU rdOU:=λw0 gc gr gx f tx A Z sl s R S hS hA he hl hv w hw=>by
 refine Sy.enterT (args:=[ptr gc,.pointer (some ⟨gx,f,none⟩)]) hw Tryz.func65 rfl kL ?_
 refine sC ?_
 refine sp rfl<|sp rfl<|sp rfl<|sP (.pointer (some ⟨gx,f,none⟩)) ?_
 refine Sy.callT (λw hw=>octet_r w0.inn gc gr gx f tx (A) (([Value.bool false]++(Z32++lPT ⟨0,0,false⟩))++(([Value.bool false]++([Value.int .u64 0]++lPT ⟨0,0,false⟩))++([Value.slice none 0 0]++([Value.slice none 0 0]++([Value.slice none 0 0]++([Value.slice none 0 0]++(Z))))))) sl s (R) S hS hA he (hl) hv w (by simpa only [List.append_assoc] using hw)) (λu M hM=>?_)
 obtain ⟨x1,s1,sl1,cs1,N1,a1,n1,o1,rfl,e1,h1,y1,rfl⟩:=hM
 have g1:s1.rest.length≤s.rest.length:=h1
 have A1:(A++[Value.int .i64 x1]).length=f+1:=by rw [List.length_append,hA,n1]
 refine sA ?_
 refine sp rfl<|sp rfl<|sP (.pointer (some ⟨gx,f,none⟩))<|sS (.int .i64 x1) (Quiet.cell 1 gx f tx 3 (A++([Value.int .i64 x1]++(([Value.bool false]++(Z32++lPT ⟨0,0,false⟩))++(([Value.bool false]++([Value.int .u64 0]++lPT ⟨0,0,false⟩))++([Value.slice none 0 0]++([Value.slice none 0 0]++([Value.slice none 0 0]++([Value.slice none 0 0]++(Z))))))))).toArray _ _ rfl kR rfl Tryz.underlying3 rfl _ (by rw [List.getElem?_toArray,List.getElem?_append_right (by omega),hA,Nat.sub_self]; rfl)) ?_
 refine sG<|Sy.block<|Sy.seq<|Sy.block ?_
 by_cases hk:x1=1∨x1=2∨x1=3∨x1=4
 ·obtain ⟨k1,k2⟩:=okK_yes hk
  refine Sy.seq ?_
  refine cutC [(0,ptr gc),(1,.pointer (some ⟨gx,f,none⟩))] (CRS gc gr gx tx (A++([Value.int .i64 x1]++(([Value.bool false]++(Z32++lPT ⟨0,0,false⟩))++(([Value.bool false]++([Value.int .u64 0]++lPT ⟨0,0,false⟩))++([Value.slice none 0 0]++([Value.slice none 0 0]++([Value.slice none 0 0]++([Value.slice none 0 0]++(Z))))))))) sl1 s1.e (R++N1)) ?_ ?_
  ·clear a1 n1 o1 A1 k1 k2
   rcases hk with rfl | rfl | rfl | rfl
   ·refine Sy.block<|Sy.block<|Sy.block<|Sy.block<|Sy.seq<|Sy.seq<|sC ?_
    refine sP (.bool true)<|sp rfl ?_
    refine sG<|sT<|Sy.exit<|Sy.then_exit<|Sy.then_exit<|Sy.in_exit<|Sy.in_<|Sy.in_<|Sy.in_ ?_
    exact meet (all_cons kR (all_cons kR all_nil)) (λ_ h=>h)
   ·refine Sy.block<|Sy.block<|Sy.block<|Sy.block<|Sy.seq<|Sy.seq<|sC ?_
    refine sP (.bool false)<|sp rfl ?_
    refine sG<|sU<|Sy.skip<|Sy.then_<|Sy.seq<|sC ?_
    refine sP (.bool true)<|sp rfl ?_
    refine sG<|sT<|Sy.exit<|Sy.then_exit<|Sy.then_exit ?_
    refine Sy.in_pass (by decide) ?_
    refine Sy.in_exit<|Sy.in_<|Sy.in_ ?_
    exact meet (all_cons kR (all_cons kR all_nil)) (λ_ h=>h)
   ·refine Sy.block<|Sy.block<|Sy.block<|Sy.block<|Sy.seq<|Sy.seq<|sC ?_
    refine sP (.bool false)<|sp rfl ?_
    refine sG<|sU<|Sy.skip<|Sy.then_<|Sy.seq<|sC ?_
    refine sP (.bool false)<|sp rfl ?_
    refine sG<|sU<|Sy.skip<|Sy.then_<|Sy.seq<|sC ?_
    refine sP (.bool true)<|sp rfl ?_
    refine sG<|sT<|Sy.exit<|Sy.then_exit<|Sy.then_exit ?_
    refine Sy.in_pass (by decide) ?_
    refine Sy.in_pass (by decide) ?_
    refine Sy.in_exit<|Sy.in_ ?_
    exact meet (all_cons kR (all_cons kR all_nil)) (λ_ h=>h)
   ·refine Sy.block<|Sy.block<|Sy.block<|Sy.block<|Sy.seq<|Sy.seq<|sC ?_
    refine sP (.bool false)<|sp rfl ?_
    refine sG<|sU<|Sy.skip<|Sy.then_<|Sy.seq<|sC ?_
    refine sP (.bool false)<|sp rfl ?_
    refine sG<|sU<|Sy.skip<|Sy.then_<|Sy.seq<|sC ?_
    refine sP (.bool false)<|sp rfl ?_
    refine sG<|sU<|Sy.skip<|Sy.then_<|sC ?_
    refine sP (.bool true)<|sp rfl ?_
    refine sG<|sT<|Sy.exit<|Sy.then_exit ?_
    refine Sy.in_pass (by decide) ?_
    refine Sy.in_pass (by decide) ?_
    refine Sy.in_pass (by decide) ?_
    refine Sy.in_exit ?_
    exact meet (all_cons kR (all_cons kR all_nil)) (λ_ h=>h)
  refine Sy.then_<|Sy.seq<|sC ?_
  refine sp rfl<|sp rfl<|sp rfl<|sP (.pointer (some ⟨gx,f+1,none⟩)) ?_
  refine Sy.callT (λw hw=>tag_r w0.inn gc gr gx (f+1) tx (A++[Value.int .i64 x1]) (([Value.bool false]++([Value.int .u64 0]++lPT ⟨0,0,false⟩))++([Value.slice none 0 0]++([Value.slice none 0 0]++([Value.slice none 0 0]++([Value.slice none 0 0]++(Z)))))) sl1 s1 (R++N1) S (λb h=>List.mem_append_left _ (hS b h)) A1 e1 (Nat.le_trans g1 hl) y1 w (by have e:A++[Value.int .i64 x1]++(([Value.bool false]++(Z32++lPT ⟨0,0,false⟩))++(([Value.bool false]++([Value.int .u64 0]++lPT ⟨0,0,false⟩))++([Value.slice none 0 0]++([Value.slice none 0 0]++([Value.slice none 0 0]++([Value.slice none 0 0]++(Z)))))))=A++([Value.int .i64 x1]++(([Value.bool false]++(Z32++lPT ⟨0,0,false⟩))++(([Value.bool false]++([Value.int .u64 0]++lPT ⟨0,0,false⟩))++([Value.slice none 0 0]++([Value.slice none 0 0]++([Value.slice none 0 0]++([Value.slice none 0 0]++(Z)))))))):=List.append_assoc ..; rw [e]; exact hw)) (λu M hM=>?_)
  obtain ⟨x2,s2,sl2,cs2,N2,a2,n2,o2,⟨rfl,r2⟩,e2,h2,y2,rfl⟩:=hM
  have g2:s2.rest.length≤s.rest.length:=Nat.le_trans h2 g1
  have A2:(A++[Value.int .i64 x1]++(cTG x2)).length=f+43:=by rw [List.length_append,A1,n2]
  refine sA ?_
  refine sp rfl<|sp rfl<|sp rfl<|sP (.pointer (some ⟨gx,f+43,none⟩)) ?_
  refine Sy.callT (λw hw=>amount_r w0.inn gc gr gx (f+43) tx (A++[Value.int .i64 x1]++(cTG x2)) ([Value.slice none 0 0]++([Value.slice none 0 0]++([Value.slice none 0 0]++([Value.slice none 0 0]++(Z))))) sl2 s2 (R++N1++N2) S (λb h=>List.mem_append_left _ (List.mem_append_left _ (hS b h))) A2 e2 (Nat.le_trans g2 hl) y2 w (by have e:A++[Value.int .i64 x1]++(cTG x2)++(([Value.bool false]++([Value.int .u64 0]++lPT ⟨0,0,false⟩))++([Value.slice none 0 0]++([Value.slice none 0 0]++([Value.slice none 0 0]++([Value.slice none 0 0]++(Z))))))=A++[Value.int .i64 x1]++(cTG x2++(([Value.bool false]++([Value.int .u64 0]++lPT ⟨0,0,false⟩))++([Value.slice none 0 0]++([Value.slice none 0 0]++([Value.slice none 0 0]++([Value.slice none 0 0]++(Z))))))):=List.append_assoc ..; rw [e]; exact hw)) (λu M hM=>?_)
  obtain ⟨x3,s3,sl3,cs3,N3,a3,n3,o3,⟨rfl,r3⟩,e3,h3,y3,rfl⟩:=hM
  have g3:s3.rest.length≤s.rest.length:=Nat.le_trans h3 g2
  have A3:(A++[Value.int .i64 x1]++(cTG x2)++(cAM x3)).length=f+54:=by rw [List.length_append,A2,n3]
  refine sA ?_
  refine sp rfl<|sp rfl<|sp rfl<|sP (.pointer (some ⟨gx,f+54,none⟩)) ?_
  refine Sy.callT (λw hw=>text_r 6000 (by decide) w0.inn gc gr gx (f+54) tx (A++[Value.int .i64 x1]++(cTG x2)++(cAM x3)) ([Value.slice none 0 0]++([Value.slice none 0 0]++([Value.slice none 0 0]++(Z)))) sl3 s3 (R++N1++N2++N3) S (λb h=>List.mem_append_left _ (List.mem_append_left _ (List.mem_append_left _ (hS b h)))) A3 e3 (Nat.le_trans g3 hl) y3 w (by have e:A++[Value.int .i64 x1]++(cTG x2)++(cAM x3)++([Value.slice none 0 0]++([Value.slice none 0 0]++([Value.slice none 0 0]++([Value.slice none 0 0]++(Z)))))=A++[Value.int .i64 x1]++(cTG x2)++(cAM x3++([Value.slice none 0 0]++([Value.slice none 0 0]++([Value.slice none 0 0]++([Value.slice none 0 0]++(Z)))))):=List.append_assoc ..; rw [e]; exact hw)) (λu M hM=>?_)
  obtain ⟨x4,s4,sl4,cs4,N4,a4,n4,o4,⟨v4,rfl,r4⟩,e4,h4,y4,rfl⟩:=hM
  have g4:s4.rest.length≤s.rest.length:=Nat.le_trans h4 g3
  have A4:(A++[Value.int .i64 x1]++(cTG x2)++(cAM x3)++[v4]).length=f+55:=by rw [List.length_append,A3,n4]
  refine sA ?_
  refine sp rfl<|sp rfl<|sp rfl<|sP (.pointer (some ⟨gx,f+55,none⟩)) ?_
  refine Sy.callT (λw hw=>text_r 6000 (by decide) w0.inn gc gr gx (f+55) tx (A++[Value.int .i64 x1]++(cTG x2)++(cAM x3)++[v4]) ([Value.slice none 0 0]++([Value.slice none 0 0]++(Z))) sl4 s4 (R++N1++N2++N3++N4) S (λb h=>List.mem_append_left _ (List.mem_append_left _ (List.mem_append_left _ (List.mem_append_left _ (hS b h))))) A4 e4 (Nat.le_trans g4 hl) y4 w (by have e:A++[Value.int .i64 x1]++(cTG x2)++(cAM x3)++[v4]++([Value.slice none 0 0]++([Value.slice none 0 0]++([Value.slice none 0 0]++(Z))))=A++[Value.int .i64 x1]++(cTG x2)++(cAM x3)++([v4]++([Value.slice none 0 0]++([Value.slice none 0 0]++([Value.slice none 0 0]++(Z))))):=List.append_assoc ..; rw [e]; exact hw)) (λu M hM=>?_)
  obtain ⟨x5,s5,sl5,cs5,N5,a5,n5,o5,⟨v5,rfl,r5⟩,e5,h5,y5,rfl⟩:=hM
  have g5:s5.rest.length≤s.rest.length:=Nat.le_trans h5 g4
  have A5:(A++[Value.int .i64 x1]++(cTG x2)++(cAM x3)++[v4]++[v5]).length=f+56:=by rw [List.length_append,A4,n5]
  refine sA ?_
  refine sp rfl<|sp rfl<|sp rfl<|sP (.pointer (some ⟨gx,f+56,none⟩)) ?_
  refine Sy.callT (λw hw=>text_r 128 (by decide) w0.inn gc gr gx (f+56) tx (A++[Value.int .i64 x1]++(cTG x2)++(cAM x3)++[v4]++[v5]) ([Value.slice none 0 0]++(Z)) sl5 s5 (R++N1++N2++N3++N4++N5) S (λb h=>List.mem_append_left _ (List.mem_append_left _ (List.mem_append_left _ (List.mem_append_left _ (List.mem_append_left _ (hS b h)))))) A5 e5 (Nat.le_trans g5 hl) y5 w (by have e:A++[Value.int .i64 x1]++(cTG x2)++(cAM x3)++[v4]++[v5]++([Value.slice none 0 0]++([Value.slice none 0 0]++(Z)))=A++[Value.int .i64 x1]++(cTG x2)++(cAM x3)++[v4]++([v5]++([Value.slice none 0 0]++([Value.slice none 0 0]++(Z)))):=List.append_assoc ..; rw [e]; exact hw)) (λu M hM=>?_)
  obtain ⟨x6,s6,sl6,cs6,N6,a6,n6,o6,⟨v6,rfl,r6⟩,e6,h6,y6,rfl⟩:=hM
  have g6:s6.rest.length≤s.rest.length:=Nat.le_trans h6 g5
  have A6:(A++[Value.int .i64 x1]++(cTG x2)++(cAM x3)++[v4]++[v5]++[v6]).length=f+57:=by rw [List.length_append,A5,n6]
  refine Sy.nil<|Sy.then_<|Sy.region ?_
  refine sp rfl<|sp rfl<|sp rfl<|sP (.pointer (some ⟨gx,f+57,none⟩)) ?_
  refine Sy.callT (λw hw=>text_r 256 (by decide) w0.inn gc gr gx (f+57) tx (A++[Value.int .i64 x1]++(cTG x2)++(cAM x3)++[v4]++[v5]++[v6]) (Z) sl6 s6 (R++N1++N2++N3++N4++N5++N6) S (λb h=>List.mem_append_left _ (List.mem_append_left _ (List.mem_append_left _ (List.mem_append_left _ (List.mem_append_left _ (List.mem_append_left _ (hS b h))))))) A6 e6 (Nat.le_trans g6 hl) y6 w (by have e:A++[Value.int .i64 x1]++(cTG x2)++(cAM x3)++[v4]++[v5]++[v6]++([Value.slice none 0 0]++(Z))=A++[Value.int .i64 x1]++(cTG x2)++(cAM x3)++[v4]++[v5]++([v6]++([Value.slice none 0 0]++(Z))):=List.append_assoc ..; rw [e]; exact hw)) (λu M hM=>?_)
  obtain ⟨x7,s7,sl7,cs7,N7,a7,n7,o7,⟨v7,rfl,r7⟩,e7,h7,y7,rfl⟩:=hM
  have g7:s7.rest.length≤s.rest.length:=Nat.le_trans h7 g6
  have A7:(A++[Value.int .i64 x1]++(cTG x2)++(cAM x3)++[v4]++[v5]++[v6]++[v7]).length=f+58:=by rw [List.length_append,A6,n7]
  refine Sy.nil<|Sy.then_<|Sy.exit ?_
  refine Sy.in_pass (by decide) ?_
  refine Sy.then_exit<|Sy.in_exit ?_
  have hAf:After rdOU s ⟨x1,x2,x3,x4,x5,x6,x7⟩ s7:=a1.bind (After.mustY k1 (a2.bind (a3.bind (a4.bind (a5.bind (a6.bind (a7.bind (After.ret _ _))))))))
  have hLn:([Value.int .i64 x1]++(cTG x2++(cAM x3++([v4]++([v5]++([v6]++([v7]))))))).length=58:=by simp only [List.length_append,n2,n3]; rfl
  have hOn:∀ u∈([Value.int .i64 x1]++(cTG x2++(cAM x3++([v4]++([v5]++([v6]++([v7]))))))),u.oneCell'=true:=ones_app o1 (ones_app o2 (ones_app o3 (ones_app o4 (ones_app o5 (ones_app o6 o7)))))
  have hRp:repOU (rdB (N1++(N2++(N3++(N4++(N5++(N6++N7))))))) ([Value.int .i64 x1]++(cTG x2++(cAM x3++([v4]++([v5]++([v6]++([v7]))))))) ⟨x1,x2,x3,x4,x5,x6,x7⟩:=⟨v4,v5,v6,v7,rfl,r2,r3,r4.le (rdB_le λb h=>by simp [h]),r5.le (rdB_le λb h=>by simp [h]),r6.le (rdB_le λb h=>by simp [h]),r7.le (rdB_le λb h=>by simp [h])⟩
  exact Sy.retT0 rfl (CRS gc gr gx tx (A++(([Value.int .i64 x1]++(cTG x2++(cAM x3++([v4]++([v5]++([v6]++([v7])))))))++Z)) sl7 s7.e (R++(N1++(N2++(N3++(N4++(N5++(N6++N7)))))))) (λ_ h=>by simpa only [List.append_assoc,List.cons_append,List.nil_append] using h) (λ_=>⟨_,s7,sl7,_,_,hAf,hLn,hOn,hRp,e7,g7,y7,rfl⟩)
 refine Sy.seq<|Sy.block<|Sy.block<|Sy.block<|Sy.block<|Sy.seq<|Sy.seq<|sC ?_
 refine sS (.bool false) (Quiet.pure (exec_int .eql _ _ _ .i64 _ _ _ rfl rfl rfl (int_eql _ _ _ _ _ (decide_eq_false (λe=>hk (by simp [e]))))))<|sp rfl ?_
 refine sG<|sU<|Sy.skip<|Sy.then_<|Sy.seq<|sC ?_
 refine sS (.bool false) (Quiet.pure (exec_int .eql _ _ _ .i64 _ _ _ rfl rfl rfl (int_eql _ _ _ _ _ (decide_eq_false (λe=>hk (by simp [e]))))))<|sp rfl ?_
 refine sG<|sU<|Sy.skip<|Sy.then_<|Sy.seq<|sC ?_
 refine sS (.bool false) (Quiet.pure (exec_int .eql _ _ _ .i64 _ _ _ rfl rfl rfl (int_eql _ _ _ _ _ (decide_eq_false (λe=>hk (by simp [e]))))))<|sp rfl ?_
 refine sG<|sU<|Sy.skip<|Sy.then_<|sC ?_
 refine sS (.bool false) (Quiet.pure (exec_int .eql _ _ _ .i64 _ _ _ rfl rfl rfl (int_eql _ _ _ _ _ (decide_eq_false (λe=>hk (by simp [e]))))))<|sp rfl ?_
 refine sG<|sU<|Sy.skip<|Sy.then_<|Sy.exit ?_
 refine Sy.in_pass (by decide) ?_
 refine Sy.in_pass (by decide) ?_
 refine Sy.in_pass (by decide) ?_
 refine Sy.in_pass (by decide) ?_
 refine Sy.then_exit<|Sy.in_exit<|sB ?_
 refine sp rfl ?_
 have p5:(CRS gc gr gx tx (A++([Value.int .i64 x1]++(([Value.bool false]++(Z32++lPT ⟨0,0,false⟩))++(([Value.bool false]++([Value.int .u64 0]++lPT ⟨0,0,false⟩))++([Value.slice none 0 0]++([Value.slice none 0 0]++([Value.slice none 0 0]++([Value.slice none 0 0]++(Z))))))))) sl1 s1.e (R++N1)).Perm (CRN gc gr sl1 s1.e ((gx,tx,(A++([Value.int .i64 x1]++(([Value.bool false]++(Z32++lPT ⟨0,0,false⟩))++(([Value.bool false]++([Value.int .u64 0]++lPT ⟨0,0,false⟩))++([Value.slice none 0 0]++([Value.slice none 0 0]++([Value.slice none 0 0]++([Value.slice none 0 0]++(Z))))))))).toArray)::(R++N1))):=swap23
 refine Sy.permS p5 ?_
 refine Sy.callT (λw hw=>must_r w0.inn gc gr sl1 s1.e e1 ((gx,tx,(A++([Value.int .i64 x1]++(([Value.bool false]++(Z32++lPT ⟨0,0,false⟩))++(([Value.bool false]++([Value.int .u64 0]++lPT ⟨0,0,false⟩))++([Value.slice none 0 0]++([Value.slice none 0 0]++([Value.slice none 0 0]++([Value.slice none 0 0]++(Z))))))))).toArray)::(R++N1)) false w hw) (λu M hM=>?_)
 subst hM
 obtain ⟨e2,he2⟩:∃ e2,e2=if false=true then s1.e else if s1.e=0 then 120 else s1.e:=⟨_,rfl⟩
 rw [← he2]
 rw [if_neg (by decide)] at he2
 have he3:e2≠0:=by rw [he2]; split <;> omega
 have he4:e2≤200:=by rw [he2]; split <;> omega
 refine sG<|Sy.exit<|Sy.in_exit ?_
 have p6:(CRN gc gr sl1 e2 ((gx,tx,(A++([Value.int .i64 x1]++(([Value.bool false]++(Z32++lPT ⟨0,0,false⟩))++(([Value.bool false]++([Value.int .u64 0]++lPT ⟨0,0,false⟩))++([Value.slice none 0 0]++([Value.slice none 0 0]++([Value.slice none 0 0]++([Value.slice none 0 0]++(Z))))))))).toArray)::(R++N1))).Perm (CRS gc gr gx tx (A++([Value.int .i64 x1]++(([Value.bool false]++(Z32++lPT ⟨0,0,false⟩))++(([Value.bool false]++([Value.int .u64 0]++lPT ⟨0,0,false⟩))++([Value.slice none 0 0]++([Value.slice none 0 0]++([Value.slice none 0 0]++([Value.slice none 0 0]++(Z))))))))) sl1 e2 (R++N1)):=swap23
 have hno:okK x1=false:=okK_of hk
 have hAf:After rdOU s ⟨x1,⟨false,z32,⟨0,0,false⟩⟩,⟨false,0,⟨0,0,false⟩⟩,[],[],[],[]⟩ ⟨s1.rest,e2⟩:=a1.bind (by rw [hno]; exact After.mustX _ _ he3)
 have hLn:([Value.int .i64 x1]++(([Value.bool false]++(Z32++lPT ⟨0,0,false⟩))++(([Value.bool false]++([Value.int .u64 0]++lPT ⟨0,0,false⟩))++([Value.slice none 0 0]++([Value.slice none 0 0]++([Value.slice none 0 0]++([Value.slice none 0 0]))))))).length=58:=rfl
 have hOn:∀ u∈([Value.int .i64 x1]++(([Value.bool false]++(Z32++lPT ⟨0,0,false⟩))++(([Value.bool false]++([Value.int .u64 0]++lPT ⟨0,0,false⟩))++([Value.slice none 0 0]++([Value.slice none 0 0]++([Value.slice none 0 0]++([Value.slice none 0 0]))))))),u.oneCell'=true:=ones_app o1 (ones_app (ones_app (λu hu=>by rw [List.mem_singleton.1 hu]; rfl) (ones_app (ones_bW z32) (lPT_one _))) (ones_app (ones_app (λu hu=>by rw [List.mem_singleton.1 hu]; rfl) (ones_app (λu hu=>by rw [List.mem_singleton.1 hu]; rfl) (lPT_one _))) (ones_app one_ni (ones_app one_ni (ones_app one_ni one_ni)))))
 have hRp:repOU (rdB N1) ([Value.int .i64 x1]++(([Value.bool false]++(Z32++lPT ⟨0,0,false⟩))++(([Value.bool false]++([Value.int .u64 0]++lPT ⟨0,0,false⟩))++([Value.slice none 0 0]++([Value.slice none 0 0]++([Value.slice none 0 0]++([Value.slice none 0 0]))))))) ⟨x1,⟨false,z32,⟨0,0,false⟩⟩,⟨false,0,⟨0,0,false⟩⟩,[],[],[],[]⟩:=⟨.slice none 0 0,.slice none 0 0,.slice none 0 0,.slice none 0 0,rfl,⟨rfl,(show 0<Cu.K4 by decide),(show 0<Cu.K4 by decide)⟩,⟨(show (0:Nat)<18446744073709551616 by decide),(show 0<Cu.K4 by decide),(show 0<Cu.K4 by decide)⟩,BytR.nil _,BytR.nil _,BytR.nil _,BytR.nil _⟩
 have hcs:A++(([Value.int .i64 x1]++(([Value.bool false]++(Z32++lPT ⟨0,0,false⟩))++(([Value.bool false]++([Value.int .u64 0]++lPT ⟨0,0,false⟩))++([Value.slice none 0 0]++([Value.slice none 0 0]++([Value.slice none 0 0]++([Value.slice none 0 0])))))))++Z)=A++([Value.int .i64 x1]++(([Value.bool false]++(Z32++lPT ⟨0,0,false⟩))++(([Value.bool false]++([Value.int .u64 0]++lPT ⟨0,0,false⟩))++([Value.slice none 0 0]++([Value.slice none 0 0]++([Value.slice none 0 0]++([Value.slice none 0 0]++(Z)))))))):=by simp only [List.append_assoc]
 exact Sy.retT0 rfl (CRS gc gr gx tx (A++(([Value.int .i64 x1]++(([Value.bool false]++(Z32++lPT ⟨0,0,false⟩))++(([Value.bool false]++([Value.int .u64 0]++lPT ⟨0,0,false⟩))++([Value.slice none 0 0]++([Value.slice none 0 0]++([Value.slice none 0 0]++([Value.slice none 0 0])))))))++Z)) sl1 e2 (R++N1)) (λ_ h=>by rw [hcs]; exact h.perm p6) (λ_=>⟨_,⟨s1.rest,e2⟩,sl1,_,N1,hAf,hLn,hOn,hRp,he4,h1,y1,rfl⟩)
end Wr
end
section
namespace Wr
open Go.RowKit Sy
set_option maxRecDepth 100000
set_option maxHeartbeats 4000000
end Wr
end
section
namespace Wr
open Go.RowKit Sy
set_option maxRecDepth 100000
set_option maxHeartbeats 4000000
noncomputable def inf_ous:TypeInfo:=(Tryz.prog.info? 88).getD default
theorem info_ous:Tryz.prog.info? 88=some inf_ous:=by kernel_rfl
noncomputable def K_ous:LK:=⟨88,24,136,220,137,221,223,303,302,352,64,120,121,122,123,185,221,65,58,304,([Value.int .i64 0]++(([Value.bool false]++(Z32++lPT ⟨0,0,false⟩))++(([Value.bool false]++([Value.int .u64 0]++lPT ⟨0,0,false⟩))++([Value.slice none 0 0]++([Value.slice none 0 0]++([Value.slice none 0 0]++([Value.slice none 0 0]))))))),inf_ous⟩
theorem ok_ous:K_ous.Ok:={
 c_f0:=⟨_,_,Tryz.func64⟩,
 c_fL:=⟨_,_,Tryz.func120⟩,
 c_f1:=⟨_,_,Tryz.func121⟩,
 c_fP:=⟨_,_,Tryz.func122⟩,
 c_f2:=⟨_,_,Tryz.func123⟩,
 c_fI:=⟨_,_,Tryz.func185⟩,
 c_fJ:=⟨_,_,Tryz.func221⟩,
 ute:=⟨_,Tryz.underlying88,rfl⟩,
 uts:=Tryz.underlying24,
 ufw:=⟨_,Tryz.underlying137,rfl⟩,
 ufr:=⟨_,Tryz.underlying221,rfl⟩,
 inf:=info_ous,
 zero:=⟨_,rfl,by kernel_rfl⟩,
 size:=rfl,
 byt:=rfl,
 zl:=by kernel_rfl,
 pos:=(by decide:0<58),
 top:=(by decide:58≤16777216),
 btop:=(by decide:304≤100000000),
 its:=by kernel_rfl,
 ifw:=by kernel_rfl,
 ifr:=by kernel_rfl,
 zts:=⟨(Tryz.prog.info? 24).getD default,by kernel_rfl,by kernel_rfl⟩,
 e_fe:=enters_of Tryz.func65 kR rfl,
 e_f2:=enters_of Tryz.func123 kR rfl,
 e_fP:=enters_of Tryz.func122 kR rfl,
 e_f1:=enters_of Tryz.func121 kR rfl,
 e_fL:=enters_of Tryz.func120 kR rfl,
 e_fI:=enters_of Tryz.func185 kR rfl,
 e_fJ:=enters_of Tryz.func221 kR rfl }
theorem list_w_ous {α:Type} {rep:Rdr→List Value→α→Prop} {ok:α→Bool} {enc:α→Byt} {wt:α→Nat} (hm:Mono rep) (hp:PutO 65 58 rep ok enc wt) (w0:Base) (gc gw gx f most:Nat) (hmo:most<1000000) (bad:Bool) (s:Slc) (R:Blocks) (b:Byt) (v:Value) (l:List α) (hv:LstR (rdC w0 R) 58 rep v l) (hc:rdC w0 R gx f v) (hb:BS s b) (hlen:b.length+(9+(l.map wt).sum)≤70368744170000) (w:World) (hw:St w0 w (CWS gc gw bad s R)) :
  Calls Tryz.prog 64 #[ptr gc,.pointer (some ⟨gx,f,none⟩),.int .i64 (most:Int),.func (.func 65) #[] #[]] w (Turns w0 (WrC gc gw R (decide (l.length≤most) && l.all ok) (varB l.length++l.flatMap enc) (9+(l.map wt).sum) bad b)):=list_wG (rep:=rep) (ok:=ok) (enc:=enc) (wt:=wt) ok_ous hm hp w0 gc gw gx f most hmo bad s R b v l hv hc hb hlen w hw
theorem list_r_ous {α:Type} {rep:Rdr→List Value→α→Prop} {p:Ps α} (hm:Mono rep) (hp:GetC 65 58 (([Value.int .i64 0]++(([Value.bool false]++(Z32++lPT ⟨0,0,false⟩))++(([Value.bool false]++([Value.int .u64 0]++lPT ⟨0,0,false⟩))++([Value.slice none 0 0]++([Value.slice none 0 0]++([Value.slice none 0 0]++([Value.slice none 0 0])))))))) rep p) (w0:Base) (gc gr gx f most:Nat) (hmost:most<1000000) (tx:TypeId) (A Z:List Value) (sl:Value) (s:RS) (R S:Blocks) (hS:∀ b∈S,b∈R) (hA:A.length=f) (he:s.e≤200) (hl:s.rest.length≤70368744177664) (hv:BytR (rdC w0 S) sl s.rest) (w:World) (hw:St w0 w (CRS gc gr gx tx (A++([Value.slice none 0 0]++Z)) sl s.e R)) :
  Calls Tryz.prog 64 #[ptr gc,.pointer (some ⟨gx,f,none⟩),.int .i64 (most:Int),.func (.func 65) #[] #[]] w (Turns w0 (RdT 1 (repL 58 rep) (listP most p) w0 gc gr gx tx A Z s R S)):=list_rG (rep:=rep) (p:=p) ok_ous hm hp w0 gc gr gx f most hmost tx A Z sl s R S hS hA he hl hv w hw
end Wr
end
section
namespace Wr
open Go.RowKit Sy
set_option maxRecDepth 100000
set_option maxHeartbeats 4000000
end Wr
end
section
namespace Wr
open Go.RowKit Sy
set_option maxRecDepth 100000
set_option maxHeartbeats 4000000
end Wr
end
section
namespace Wr
open Go.RowKit Sy
set_option maxRecDepth 100000
set_option maxHeartbeats 4000000
end Wr
end
section
namespace Wr
open Go.RowKit Sy
set_option maxRecDepth 100000
set_option maxHeartbeats 4000000
end Wr
end
section
namespace Wr
open Go.RowKit Sy
set_option maxRecDepth 100000
set_option maxHeartbeats 4000000
end Wr
end
section
namespace Wr
open Go.RowKit Sy
set_option maxRecDepth 100000
set_option maxHeartbeats 4000000
end Wr
end
section
namespace Wr
open Go.RowKit Sy
set_option maxRecDepth 100000
set_option maxHeartbeats 4000000
end Wr
end
section
namespace Wr
open Go.RowKit Sy
set_option maxRecDepth 100000
set_option maxHeartbeats 4000000
end Wr
end
section
namespace Wr
open Go.RowKit Sy
set_option maxRecDepth 100000
set_option maxHeartbeats 4000000
end Wr
end
section
namespace Wr
open Go.RowKit Sy
set_option maxRecDepth 100000
set_option maxHeartbeats 4000000
end Wr
end
section
namespace Wr
open Go.RowKit Sy
set_option maxRecDepth 100000
set_option maxHeartbeats 4000000
end Wr
end
section
namespace Wr
open Go.RowKit Sy
set_option maxRecDepth 100000
set_option maxHeartbeats 4000000
end Wr
end
section
namespace Wr
open Go.RowKit Sy
set_option maxRecDepth 100000
set_option maxHeartbeats 4000000
end Wr
end
section
namespace Cu
open Go.RowKit Sy
set_option maxRecDepth 100000
set_option maxHeartbeats 4000000
section
variable {P:Program} {w0:Base} {n:Nat} {F:Slots} {L:Blocks}
end
end Cu
end
section
section
open Go.RowKit Go.Lib
end
end
section
namespace Sy
open Go.RowKit
section
variable {P:Program} {w0:Base} {n:Nat} {Q:Exit→Act→World→Prop} {F:Slots} {L:Blocks}
end
end Sy
end
section
namespace Cu
open Go.RowKit Sy
end Cu
end
section
namespace Cu
open Go.RowKit Sy
set_option maxRecDepth 100000
set_option maxHeartbeats 4000000
section
variable {P:Program} {w0:Base} {F:Slots} {L:Blocks} {o:Oper}
end
end Cu
end
section
namespace Wr
open Go.RowKit Sy
set_option maxRecDepth 100000
set_option maxHeartbeats 4000000
end Wr
end
section
namespace Wr
open Go.RowKit Sy
set_option maxRecDepth 100000
set_option maxHeartbeats 4000000
end Wr
end
section
namespace Wr
open Go.RowKit Sy
set_option maxRecDepth 100000
set_option maxHeartbeats 4000000
end Wr
end
section
namespace Wr
open Go.RowKit Sy
set_option maxRecDepth 100000
set_option maxHeartbeats 4000000
end Wr
end
section
namespace Wr
open Go.RowKit Sy
set_option maxRecDepth 100000
set_option maxHeartbeats 4000000
end Wr
end
section
namespace Wr
open Go.RowKit Sy
set_option maxRecDepth 100000
set_option maxHeartbeats 4000000
end Wr
end
section
namespace Wr
open Go.RowKit Sy
set_option maxRecDepth 100000
set_option maxHeartbeats 4000000
end Wr
end
section
namespace Wr
open Go.RowKit Sy
set_option maxRecDepth 100000
set_option maxHeartbeats 4000000
end Wr
end
section
namespace Wr
open Go.RowKit Sy
set_option maxRecDepth 100000
set_option maxHeartbeats 4000000
theorem conv_48 (w:World) (F:Slots) (o:Oper) (x:Operand) (n:Nat) (hn:n<4294967296) (ho:o.op=.convert 67 22 x) (hx:evF F x=.int .u32 (n:Int)):(execOp (evF F) o).run Tryz.prog w=.ok (.value (.int .u64 (n:Int))) w:=by
 have h:(convert 67 22 (.int .u32 (n:Int))).run Tryz.prog w=.ok (.int .u64 (n:Int)) w:=by
  go_simp
  unfold IntKind.wrap
  simp [IntKind.signed,IntKind.bits]
  omega
 unfold execOp
 simp only [ho,hx,Sem.run_bind,h,Result.andThen_ok,Sem.run_pure]
theorem conv_84 (w:World) (F:Slots) (o:Oper) (x:Operand) (n:Nat) (hn:n<4294967296) (ho:o.op=.convert 22 67 x) (hx:evF F x=.int .u64 (n:Int)):(execOp (evF F) o).run Tryz.prog w=.ok (.value (.int .u32 (n:Int))) w:=by
 have h:(convert 22 67 (.int .u64 (n:Int))).run Tryz.prog w=.ok (.int .u32 (n:Int)) w:=by
  go_simp
  unfold IntKind.wrap
  simp [IntKind.signed,IntKind.bits]
  omega
 unfold execOp
 simp only [ho,hx,Sem.run_bind,h,Result.andThen_ok,Sem.run_pure]
theorem word_any (w0:Base) (gw:Nat) (s:Slc) (R:Blocks) (b:Byt) (n:Nat) (hn:n<4294967296) (hb:BS s b) (hl:b.length≤70368744177664) (w:World) (hw:St w0 w (WS gw s R)) :
  Calls Tryz.prog 211 #[ptr gw,.int .u32 (n:Int)] w (Turns w0 (Wr gw R (b++nb 4 n))):=by
 refine Sy.enterT (args:=[ptr gw,.int .u32 (n:Int)]) hw Tryz.func211 rfl kL ?_
 refine Sy.region ?_
 refine sp rfl<|sp rfl<|sS (.int .u64 (n:Int)) (Quiet.pure (λw=>conv_48 w _ _ _ n hn rfl rfl)) ?_
 refine Sy.callT (λw hw=>fixed_any _ gw s R b n 4 (by omega) (by decide) hb hl w hw) (λv M hM=>?_)
 obtain ⟨s1,hs1,rfl⟩:=hM
 refine Sy.nil ?_
 exact Sy.retT0 rfl (WS gw s1 R) (λ_ h=>h) (λ_=>⟨s1,hs1,rfl⟩)
theorem word_w (w0:Base) (gc gw gx f:Nat) (bad:Bool) (s:Slc) (R:Blocks) (b:Byt) (n:Nat) (hn:n<4294967296) (hc:rdC w0 R gx f (.int .u32 (n:Int))) (hb:BS s b) (hl:b.length+4≤70368744177000) (w:World) (hw:St w0 w (CWS gc gw bad s R)) :
  Calls Tryz.prog 177 #[ptr gc,.pointer (some ⟨gx,f,none⟩)] w (Turns w0 (WrC gc gw R true (nb 4 n) 4 bad b)):=by
 have item:∀ w,St w0.inn w (CWS gc gw bad s R)→Calls Tryz.prog 210 #[ptr gc,.pointer (some ⟨gx,f,none⟩),.func (.func 211) #[] #[],.func (.func 212) #[] #[]] w (Turns w0.inn (WrC gc gw R true (nb 4 n) 4 bad b)):=λw hw=>by
  refine Sy.enterT (args:=[ptr gc,.pointer (some ⟨gx,f,none⟩),.func (.func 211) #[] #[],.func (.func 212) #[] #[]]) hw Tryz.func210 rfl kL ?_
  refine sC ?_
  refine sp rfl<|sS (.bool false) (qg (λw hw=>reads_w w0.inn gc _ _ (List.mem_cons_self ..) w hw)) ?_
  refine sG<|sU ?_
  refine Sy.regionD (λj=>j == 8) kR ?_
  refine sa 0 rfl rfl<|sa 1 rfl rfl<|sa 2 rfl rfl<|sb 3 rfl (.pointer (some ⟨gc,0,none⟩))<|sD 4 rfl (ptr gw) (qc 0 0 rfl rfl Tryz.underlying122)<|sa 5 rfl rfl<|sa 6 rfl rfl<|sD 7 rfl (.int .u32 (n:Int)) (cellC (R:=R) hc inCW rfl Tryz.underlying67) ?_
  refine Sy.soleD 8 rfl (λQ2 hq2=>?_)
  refine Sy.callT (λw hw=>word_any w0.inn gw s ((gc,126,#[ptr gw,.pointer none,.bool bad])::R) b n hn hb (by omega) w (hw.perm permCW)) (λu M hM=>?_)
  obtain ⟨s1,hs1,rfl⟩:=hM
  refine Sy.permS permCW.symm ?_
  refine hq2 _ _ ?_
  refine sE ?_
  exact Sy.retT0 rfl (CWS gc gw bad s1 R) (λ_ h=>h) (λ_=>⟨s1,bad,b++nb 4 n,Wrote.raw _ bad b (by rw [nb_len]; exact Nat.le_refl _),hs1,rfl⟩)
 refine Sy.enterT (args:=[ptr gc,.pointer (some ⟨gx,f,none⟩)]) hw Tryz.func177 rfl kL ?_
 refine Sy.region ?_
 refine sp rfl<|sp rfl ?_
 refine Sy.callT (λw hw=>item w hw) (λu M hM=>?_)
 obtain ⟨s1,bad1,b1,h1,h2,rfl⟩:=hM
 refine Sy.nil ?_
 exact Sy.retT0 rfl (CWS gc gw bad1 s1 R) (λ_ h=>h) (λ_=>⟨s1,bad1,b1,h1,h2,rfl⟩)
def rep32 (_:Rdr) (cs:List Value) (n:Nat):Prop:=cs=[.int .u32 (n:Int)]∧n<4294967296
theorem word9_any (w0:Base) (gr:Nat) (sl:Value) (s:RS) (R S:Blocks) (hS:∀ b∈S,b∈R) (he0:s.e≤200) (hv:BytR (rdC w0 S) sl s.rest) (w:World) (hw:St w0 w (RQ gr sl s.e R)) :
  Calls Tryz.prog 212 #[ptr gr] w (Turns w0 (Rdd (numP 4) (λx v=>v=.int .u32 (x:Int)∧x<4294967296) w0 gr R S s)):=by
 obtain ⟨f,hf⟩:∃ f,f=fxN s.rest 4:=⟨_,rfl⟩
 obtain ⟨q1,q2,q3⟩:=fxN_fit s.rest 4 (by decide)
 have hy:=@fx_yes s.rest 4
 have hno:=@fx_no s.rest 4
 have hlt:f.1<4294967296:=by
  rw [hf]
  unfold fxN
  split
  ·decide
  ·have h:=said_lt (s.rest.take 4)
   have h2:256 ^ (s.rest.take 4).length≤256 ^ 4:=Nat.pow_le_pow_right (by decide) (by rw [List.length_take]; omega)
   exact Nat.lt_of_lt_of_le h h2
 rw [← hf] at q1 q2 q3 hy hno
 refine Sy.enterT (args:=[ptr gr]) hw Tryz.func212 rfl kL ?_
 refine sC ?_
 refine sP (.int .u32 0) ?_
 refine sA ?_
 refine sp rfl<|sp rfl<|sp rfl<|sP (.pointer (some ⟨gr,0,none⟩))<|sS sl (qc 0 0 rfl rfl Tryz.underlying29)<|sS (t3V f) (qg (λw' hw=>by rw [hf]; exact fixedR_any w' _ _ 4 (by decide) (by decide) (hv.le (rdC_world (w0:=w0.inn) hw (λ_ h=>List.mem_cons_of_mem _ (hS _ h))))))<|sp rfl<|sp rfl<|sp rfl ?_
 refine Sy.callT (λw hw=>number_any (numP 4) w0.inn gr sl s R S hS f.1 f.2.1 f.2.2 he0 q3 (by omega) q1 (λh=>⟨(hy h).1,(hy h).2.1⟩) hno hv w hw) (λv M hM=>?_)
 obtain ⟨x,s',sl',hA,⟨rfl,hx⟩,h2,h3,h4,rfl⟩:=hM
 refine sS (.int .u32 (x:Int)) (Quiet.pure (λw=>conv_84 w _ _ _ x (by omega) rfl rfl))<|sp rfl ?_
 refine sG<|Sy.ret ?_
 exact Sy.retT1 (RQ gr sl' s'.e R) rfl (.inl (show _=_ by kernel_rfl)) (λ_ h=>h) ⟨x,s',sl',hA,⟨rfl,by omega⟩,h2,h3,h4,rfl⟩
theorem word_r:GetC 177 1 [.int .u32 0] rep32 (numP 4):=λw0 gc gr gx f tx A Z sl s R S hS hA he hl hv w hw=>by
 have item:∀ w,St w0.inn w (CRS gc gr gx tx (A++([Value.int .u32 0]++Z)) sl s.e R)→Calls Tryz.prog 210 #[ptr gc,.pointer (some ⟨gx,f,none⟩),.func (.func 211) #[] #[],.func (.func 212) #[] #[]] w (Turns w0.inn (RdT 1 rep32 (numP 4) w0.inn gc gr gx tx A Z s R S)):=λw hw=>by
  refine Sy.enterT (args:=[ptr gc,.pointer (some ⟨gx,f,none⟩),.func (.func 211) #[] #[],.func (.func 212) #[] #[]]) hw Tryz.func210 rfl kL ?_
  refine sC ?_
  refine sp rfl<|sS (.bool true) (qg (λw hw=>reads_r w0.inn gc gr _ _ (List.mem_cons_self ..) w hw)) ?_
  refine sG<|sT<|Sy.region ?_
  refine sp rfl<|sp rfl<|sp rfl<|sp rfl<|sP (.pointer (some ⟨gc,1,none⟩))<|sS (ptr gr) (qc 0 1 rfl rfl Tryz.underlying124) ?_
  refine Sy.callT (λw hw=>word9_any w0.inn gr sl s ((gc,126,#[.pointer none,ptr gr,.bool false])::(gx,tx,(A++([Value.int .u32 0]++Z)).toArray)::R) S (λb h=>List.mem_cons_of_mem _ (List.mem_cons_of_mem _ (hS b h))) he hv w (hw.perm permCR)) (λu M hM=>?_)
  obtain ⟨x,s',sl',q1,⟨rfl,q2⟩,q3,q4,q5,rfl⟩:=hM
  refine Sy.permS permCR.symm ?_
  refine sp rfl<|sw 1 rfl (A++([Value.int .u32 (x:Int)]++Z)).toArray (Writes.one f 67 (.int .u32 (x:Int)) _ _ rfl kR kR kR rfl rfl (by rw [List.size_toArray,List.length_append,hA]; exact Nat.lt_add_of_pos_right (Nat.succ_pos _)) (set_mid hA)) ?_
  refine Sy.nil ?_
  exact Sy.retT0 rfl (CRS gc gr gx tx (A++([Value.int .u32 (x:Int)]++Z)) sl' s'.e R) (λ_ h=>h) (λ_=>⟨x,s',sl',[Value.int .u32 (x:Int)],[],q1,rfl,λu hu=>by rw [List.mem_singleton.1 hu]; rfl,⟨rfl,q2⟩,q3,q4,q5,by rw [List.append_nil]⟩)
 refine Sy.enterT (args:=[ptr gc,.pointer (some ⟨gx,f,none⟩)]) hw Tryz.func177 rfl kL ?_
 refine Sy.region ?_
 refine sp rfl<|sp rfl ?_
 refine Sy.callT (λw hw=>item w hw) (λu M hM=>?_)
 refine Sy.nil ?_
 have hM':=hM
 obtain ⟨x,s',sl',cs,N,q1,q2,q3,q4,q5,q6,q7,rfl⟩:=hM'
 exact Sy.retT0 rfl _ (λ_ h=>h) (λ_=>hM)
end Wr
end
section
namespace Sc
open Go.RowKit
def pM:Nat:=115792089237316195423570985008687907852837564279074904382605163141518161494337
theorem pM_eq:pM=115792089237316195423570985008687907852837564279074904382605163141518161494337:=rfl
theorem mod_lt (n:Nat):n%pM<(2^256):=by have:=Nat.mod_lt n (show 0<pM by decide); rw [pM_eq] at this ⊢; omega
theorem mod_lt_p (n:Nat):n%pM<pM:=Nat.mod_lt n (by decide)
end Sc
end
section
namespace Sc
open Go.RowKit Go.Lib
theorem order_any (w:World):Calls Tryz.prog 287 #[] w λe w'=>e=.returned (fv 115792089237316195423570985008687907852837564279074904382605163141518161494337)∧Below w.heap.size w w':=by
 go_enter Tryz.func287,Tryz.ntmps287
 go_wp2
 exact bodyPost_ret (results_cell_row rfl _ _ w.heap.size _ _ (0,0) _ rfl (heap_alloc_new w _) Tryz.underlying76 rfl (by kernel_rfl)) rfl ⟨rfl,(Below.refl _ _).alloc (Nat.le_refl _) _⟩
set_option maxHeartbeats 8000000 in
set_option maxRecDepth 100000 in
theorem minus_any (w:World) (x y:Nat) (hx:x<(2^256)) (hy:y<(2^256)):Calls Tryz.prog 286 #[fv x,fv y] w λe w'=>(∃ s k:Nat,s<(2^256)∧k≤1∧s+y=x+(2^256)*k∧e=.returned (.tuple #[fv s,.int .u64 (k:Int)]))∧Below w.heap.size w w':=by
 obtain ⟨x0,x1,x2,x3,a0,a1,a2,a3,ex,fx⟩:=words_of x hx
 obtain ⟨y0,y1,y2,y3,b0,b1,b2,b3,ey,fy⟩:=words_of y hy
 rw [fx,fy]
 obtain ⟨s0,c0,d0,k0,e0,r0⟩:=sub0_ex x0 y0 a0 b0
 obtain ⟨s1,c1,d1,k1,e1,r1⟩:=subc_ex x1 y1 c0 a1 b1 k0
 obtain ⟨s2,c2,d2,k2,e2,r2⟩:=subc_ex x2 y2 c1 a2 b2 k1
 obtain ⟨s3,c3,d3,k3,e3,r3⟩:=subc_ex x3 y3 c2 a3 b3 k2
 have fin:s0+18446744073709551616*s1+340282366920938463463374607431768211456*s2+6277101735386680763835789423207666416102355444464034512896*s3+y=x+(2^256)*c3:=by omega
 have hs:=Lib.hid (fv_mk s0 s1 s2 s3 d0 d1 d2 d3)
 have hlt:=Lib.hid (fv_lt s0 s1 s2 s3 d0 d1 d2 d3)
 have HF:=Lib.hid fin
 have HK:=Lib.hid k3
 clear ex ey fx fy e0 e1 e2 e3 a0 a1 a2 a3 b0 b1 b2 b3 d0 d1 d2 d3 k0 k1 k2 k3 fin hx hy
 go_enter Tryz.func286,Tryz.ntmps286
 go_wp2_with fail
 go_loopw [5,7] (λbo i wr=>Below w.heap.size w wr∧Blk wr w.heap.size 76 #[.int .u64 (x0:Int),.int .u64 (x1:Int),.int .u64 (x2:Int),.int .u64 (x3:Int)]∧Blk wr (w.heap.size+1) 76 #[.int .u64 (y0:Int),.int .u64 (y1:Int),.int .u64 (y2:Int),.int .u64 (y3:Int)]∧Hid ((i=.int .i64 0∧bo=.int .u64 0∧Blk wr (w.heap.size+2) 76 #[.int .u64 0,.int .u64 0,.int .u64 0,.int .u64 0])∨(i=.int .i64 1∧bo=.int .u64 (c0:Int)∧Blk wr (w.heap.size+2) 76 #[.int .u64 (s0:Int),.int .u64 0,.int .u64 0,.int .u64 0])∨(i=.int .i64 2∧bo=.int .u64 (c1:Int)∧Blk wr (w.heap.size+2) 76 #[.int .u64 (s0:Int),.int .u64 (s1:Int),.int .u64 0,.int .u64 0])∨(i=.int .i64 3∧bo=.int .u64 (c2:Int)∧Blk wr (w.heap.size+2) 76 #[.int .u64 (s0:Int),.int .u64 (s1:Int),.int .u64 (s2:Int),.int .u64 0])∨(i=.int .i64 4∧bo=.int .u64 (c3:Int)∧Blk wr (w.heap.size+2) 76 #[.int .u64 (s0:Int),.int .u64 (s1:Int),.int .u64 (s2:Int),.int .u64 (s3:Int)]))) (λ_ i _=>4 - (RowKit.intOf i).toNat)
 case atStart=>exact ⟨below_alloc3 w _ _ _,((Blk.new w _ _).alloc _).alloc _,(blk_new2 w _ _ _).alloc _,Lib.hid (.inl ⟨rfl,rfl,blk_new3 w _ _ _ _⟩)⟩
 case round =>
  obtain ⟨hb,BX,BY,HI⟩:=hrel
  have lX:=BX.lt
  have lY:=BY.lt
  rcases HI.out with ⟨rfl,rfl,BW⟩ | ⟨rfl,rfl,BW⟩ | ⟨rfl,rfl,BW⟩ | ⟨rfl,rfl,BW⟩ | ⟨rfl,rfl,BW⟩
  ·clear HI
   have px:wr.cell? ⟨w.heap.size,0,none⟩=some (.int .u64 (x0:Int)):=BX.cell 0
   have py:wr.cell? ⟨w.heap.size+1,0,none⟩=some (.int .u64 (y0:Int)):=BY.cell 0
   go_wp2
   refine wp_region_G (λj=>j == 13) (by kernel_rfl) ?_
   try simp only [Act.put]
   refine tk 0 rfl ?_
   try simp only [Act.put,aA,aZ,aS]
   refine tk 1 rfl ?_
   try simp only [Act.put,aA,aZ,aS]
   refine tk 2 rfl ?_
   try simp only [Act.put,aA,aZ,aS]
   refine tkw 3 rfl (YieldsG.pure (v:=.int .u64 (x0:Int)) (by rfl) (λw9 h9=>by have hz:=(Below.cell (p:=⟨w.heap.size,0,none⟩) h9 lX).trans px; go_simp; first | done | simp [hz])) ?_
   try simp only [Act.put,aA,aZ,aS]
   refine tk 4 rfl ?_
   try simp only [Act.put,aA,aZ,aS]
   refine tk 5 rfl ?_
   try simp only [Act.put,aA,aZ,aS]
   refine tkw 6 rfl (YieldsG.pure (v:=.int .u64 (y0:Int)) (by rfl) (λw9 h9=>by have hz:=(Below.cell (p:=⟨w.heap.size+1,0,none⟩) h9 lY).trans py; go_simp; first | done | simp [hz])) ?_
   try simp only [Act.put,aA,aZ,aS]
   refine tk 7 rfl ?_
   try simp only [Act.put,aA,aZ,aS]
   refine tkw 8 rfl (YieldsG.pure (v:=.tuple #[.int .u64 (s0:Int),.int .u64 (c0:Int)]) (by rfl) (λw9 h9=>by go_simp)) ?_
   try simp only [Act.put,aA,aZ,aS]
   refine tk 9 rfl ?_
   try simp only [Act.put,aA,aZ,aS]
   refine tk 10 rfl ?_
   try simp only [Act.put,aA,aZ,aS]
   refine wpAnyG_takeA 11 rfl (by kernel_rfl) (λ_ _ _ h=>h) (λ_=>YieldsG.pure (by rfl) (λw9 _=>by go_simp; try with_reducible rfl)) ?_
   try simp only [Act.put,aA,aZ,aS]
   refine tk 12 rfl ?_
   try simp only [Act.put,aA,aZ,aS]
   refine wpAnyG_sole 13 rfl (by kernel_rfl) (by rfl) (λu hu K hK=>?_)
   have BX:=Gr.blk hu BX
   have BY:=Gr.blk hu BY
   have BW:=Gr.blk hu BW
   have hb:=Below.gr hb hu
   have pc:u.cell? ⟨w.heap.size+2,0,none⟩=some (.int .u64 0):=BW.cell 0
   have pf:=BW.frozen 0
   clear hu px py
   go_simp
   refine hK _ _ (λe=>by cases e) ?_
   clear hK K
   have hb:=hb.setCell (p:=⟨w.heap.size+2,0,none⟩) (by show w.heap.size≤w.heap.size+2; omega) (.int .u64 (s0:Int))
   have BX:=BX.far (p:=⟨w.heap.size+2,0,none⟩) (by show w.heap.size≠w.heap.size+2; omega) (.int .u64 (s0:Int))
   have BY:=BY.far (p:=⟨w.heap.size+2,0,none⟩) (by show w.heap.size+1≠w.heap.size+2; omega) (.int .u64 (s0:Int))
   have BW:=BW.set_ 0 (.int .u64 (s0:Int))
   refine wpAnyG_takeA 14 rfl (by kernel_rfl) (λ_ _ _ h=>h) (λ_=>YieldsG.pure (by rfl) (λw9 _=>by go_simp; try with_reducible rfl)) ?_
   try simp only [Act.put,aA,aZ,aS]
   refine wpAnyG_done (by kernel_rfl) (λv hv=>?_)
   have hb:=Below.gr hb hv
   have BX:=Gr.blk hv BX
   have BY:=Gr.blk hv BY
   have BW:=Gr.blk hv BW
   clear hv pc pf
   go_wp2
   refine ⟨⟨hb,BX,BY,Lib.hid (.inr (.inl (⟨rfl,rfl,BW⟩)))⟩,by decide⟩
  ·clear HI
   have px:wr.cell? ⟨w.heap.size,1,none⟩=some (.int .u64 (x1:Int)):=BX.cell 1
   have py:wr.cell? ⟨w.heap.size+1,1,none⟩=some (.int .u64 (y1:Int)):=BY.cell 1
   go_wp2
   refine wp_region_G (λj=>j == 13) (by kernel_rfl) ?_
   try simp only [Act.put]
   refine tk 0 rfl ?_
   try simp only [Act.put,aA,aZ,aS]
   refine tk 1 rfl ?_
   try simp only [Act.put,aA,aZ,aS]
   refine tk 2 rfl ?_
   try simp only [Act.put,aA,aZ,aS]
   refine tkw 3 rfl (YieldsG.pure (v:=.int .u64 (x1:Int)) (by rfl) (λw9 h9=>by have hz:=(Below.cell (p:=⟨w.heap.size,1,none⟩) h9 lX).trans px; go_simp; first | done | simp [hz])) ?_
   try simp only [Act.put,aA,aZ,aS]
   refine tk 4 rfl ?_
   try simp only [Act.put,aA,aZ,aS]
   refine tk 5 rfl ?_
   try simp only [Act.put,aA,aZ,aS]
   refine tkw 6 rfl (YieldsG.pure (v:=.int .u64 (y1:Int)) (by rfl) (λw9 h9=>by have hz:=(Below.cell (p:=⟨w.heap.size+1,1,none⟩) h9 lY).trans py; go_simp; first | done | simp [hz])) ?_
   try simp only [Act.put,aA,aZ,aS]
   refine tk 7 rfl ?_
   try simp only [Act.put,aA,aZ,aS]
   refine tkw 8 rfl (YieldsG.pure (v:=.tuple #[.int .u64 (s1:Int),.int .u64 (c1:Int)]) (by rfl) (λw9 h9=>by go_simp)) ?_
   try simp only [Act.put,aA,aZ,aS]
   refine tk 9 rfl ?_
   try simp only [Act.put,aA,aZ,aS]
   refine tk 10 rfl ?_
   try simp only [Act.put,aA,aZ,aS]
   refine wpAnyG_takeA 11 rfl (by kernel_rfl) (λ_ _ _ h=>h) (λ_=>YieldsG.pure (by rfl) (λw9 _=>by go_simp; try with_reducible rfl)) ?_
   try simp only [Act.put,aA,aZ,aS]
   refine tk 12 rfl ?_
   try simp only [Act.put,aA,aZ,aS]
   refine wpAnyG_sole 13 rfl (by kernel_rfl) (by rfl) (λu hu K hK=>?_)
   have BX:=Gr.blk hu BX
   have BY:=Gr.blk hu BY
   have BW:=Gr.blk hu BW
   have hb:=Below.gr hb hu
   have pc:u.cell? ⟨w.heap.size+2,1,none⟩=some (.int .u64 0):=BW.cell 1
   have pf:=BW.frozen 1
   clear hu px py
   go_simp
   refine hK _ _ (λe=>by cases e) ?_
   clear hK K
   have hb:=hb.setCell (p:=⟨w.heap.size+2,1,none⟩) (by show w.heap.size≤w.heap.size+2; omega) (.int .u64 (s1:Int))
   have BX:=BX.far (p:=⟨w.heap.size+2,1,none⟩) (by show w.heap.size≠w.heap.size+2; omega) (.int .u64 (s1:Int))
   have BY:=BY.far (p:=⟨w.heap.size+2,1,none⟩) (by show w.heap.size+1≠w.heap.size+2; omega) (.int .u64 (s1:Int))
   have BW:=BW.set_ 1 (.int .u64 (s1:Int))
   refine wpAnyG_takeA 14 rfl (by kernel_rfl) (λ_ _ _ h=>h) (λ_=>YieldsG.pure (by rfl) (λw9 _=>by go_simp; try with_reducible rfl)) ?_
   try simp only [Act.put,aA,aZ,aS]
   refine wpAnyG_done (by kernel_rfl) (λv hv=>?_)
   have hb:=Below.gr hb hv
   have BX:=Gr.blk hv BX
   have BY:=Gr.blk hv BY
   have BW:=Gr.blk hv BW
   clear hv pc pf
   go_wp2
   refine ⟨⟨hb,BX,BY,Lib.hid (.inr (.inr (.inl (⟨rfl,rfl,BW⟩))))⟩,by decide⟩
  ·clear HI
   have px:wr.cell? ⟨w.heap.size,2,none⟩=some (.int .u64 (x2:Int)):=BX.cell 2
   have py:wr.cell? ⟨w.heap.size+1,2,none⟩=some (.int .u64 (y2:Int)):=BY.cell 2
   go_wp2
   refine wp_region_G (λj=>j == 13) (by kernel_rfl) ?_
   try simp only [Act.put]
   refine tk 0 rfl ?_
   try simp only [Act.put,aA,aZ,aS]
   refine tk 1 rfl ?_
   try simp only [Act.put,aA,aZ,aS]
   refine tk 2 rfl ?_
   try simp only [Act.put,aA,aZ,aS]
   refine tkw 3 rfl (YieldsG.pure (v:=.int .u64 (x2:Int)) (by rfl) (λw9 h9=>by have hz:=(Below.cell (p:=⟨w.heap.size,2,none⟩) h9 lX).trans px; go_simp; first | done | simp [hz])) ?_
   try simp only [Act.put,aA,aZ,aS]
   refine tk 4 rfl ?_
   try simp only [Act.put,aA,aZ,aS]
   refine tk 5 rfl ?_
   try simp only [Act.put,aA,aZ,aS]
   refine tkw 6 rfl (YieldsG.pure (v:=.int .u64 (y2:Int)) (by rfl) (λw9 h9=>by have hz:=(Below.cell (p:=⟨w.heap.size+1,2,none⟩) h9 lY).trans py; go_simp; first | done | simp [hz])) ?_
   try simp only [Act.put,aA,aZ,aS]
   refine tk 7 rfl ?_
   try simp only [Act.put,aA,aZ,aS]
   refine tkw 8 rfl (YieldsG.pure (v:=.tuple #[.int .u64 (s2:Int),.int .u64 (c2:Int)]) (by rfl) (λw9 h9=>by go_simp)) ?_
   try simp only [Act.put,aA,aZ,aS]
   refine tk 9 rfl ?_
   try simp only [Act.put,aA,aZ,aS]
   refine tk 10 rfl ?_
   try simp only [Act.put,aA,aZ,aS]
   refine wpAnyG_takeA 11 rfl (by kernel_rfl) (λ_ _ _ h=>h) (λ_=>YieldsG.pure (by rfl) (λw9 _=>by go_simp; try with_reducible rfl)) ?_
   try simp only [Act.put,aA,aZ,aS]
   refine tk 12 rfl ?_
   try simp only [Act.put,aA,aZ,aS]
   refine wpAnyG_sole 13 rfl (by kernel_rfl) (by rfl) (λu hu K hK=>?_)
   have BX:=Gr.blk hu BX
   have BY:=Gr.blk hu BY
   have BW:=Gr.blk hu BW
   have hb:=Below.gr hb hu
   have pc:u.cell? ⟨w.heap.size+2,2,none⟩=some (.int .u64 0):=BW.cell 2
   have pf:=BW.frozen 2
   clear hu px py
   go_simp
   refine hK _ _ (λe=>by cases e) ?_
   clear hK K
   have hb:=hb.setCell (p:=⟨w.heap.size+2,2,none⟩) (by show w.heap.size≤w.heap.size+2; omega) (.int .u64 (s2:Int))
   have BX:=BX.far (p:=⟨w.heap.size+2,2,none⟩) (by show w.heap.size≠w.heap.size+2; omega) (.int .u64 (s2:Int))
   have BY:=BY.far (p:=⟨w.heap.size+2,2,none⟩) (by show w.heap.size+1≠w.heap.size+2; omega) (.int .u64 (s2:Int))
   have BW:=BW.set_ 2 (.int .u64 (s2:Int))
   refine wpAnyG_takeA 14 rfl (by kernel_rfl) (λ_ _ _ h=>h) (λ_=>YieldsG.pure (by rfl) (λw9 _=>by go_simp; try with_reducible rfl)) ?_
   try simp only [Act.put,aA,aZ,aS]
   refine wpAnyG_done (by kernel_rfl) (λv hv=>?_)
   have hb:=Below.gr hb hv
   have BX:=Gr.blk hv BX
   have BY:=Gr.blk hv BY
   have BW:=Gr.blk hv BW
   clear hv pc pf
   go_wp2
   refine ⟨⟨hb,BX,BY,Lib.hid (.inr (.inr (.inr (.inl (⟨rfl,rfl,BW⟩)))))⟩,by decide⟩
  ·clear HI
   have px:wr.cell? ⟨w.heap.size,3,none⟩=some (.int .u64 (x3:Int)):=BX.cell 3
   have py:wr.cell? ⟨w.heap.size+1,3,none⟩=some (.int .u64 (y3:Int)):=BY.cell 3
   go_wp2
   refine wp_region_G (λj=>j == 13) (by kernel_rfl) ?_
   try simp only [Act.put]
   refine tk 0 rfl ?_
   try simp only [Act.put,aA,aZ,aS]
   refine tk 1 rfl ?_
   try simp only [Act.put,aA,aZ,aS]
   refine tk 2 rfl ?_
   try simp only [Act.put,aA,aZ,aS]
   refine tkw 3 rfl (YieldsG.pure (v:=.int .u64 (x3:Int)) (by rfl) (λw9 h9=>by have hz:=(Below.cell (p:=⟨w.heap.size,3,none⟩) h9 lX).trans px; go_simp; first | done | simp [hz])) ?_
   try simp only [Act.put,aA,aZ,aS]
   refine tk 4 rfl ?_
   try simp only [Act.put,aA,aZ,aS]
   refine tk 5 rfl ?_
   try simp only [Act.put,aA,aZ,aS]
   refine tkw 6 rfl (YieldsG.pure (v:=.int .u64 (y3:Int)) (by rfl) (λw9 h9=>by have hz:=(Below.cell (p:=⟨w.heap.size+1,3,none⟩) h9 lY).trans py; go_simp; first | done | simp [hz])) ?_
   try simp only [Act.put,aA,aZ,aS]
   refine tk 7 rfl ?_
   try simp only [Act.put,aA,aZ,aS]
   refine tkw 8 rfl (YieldsG.pure (v:=.tuple #[.int .u64 (s3:Int),.int .u64 (c3:Int)]) (by rfl) (λw9 h9=>by go_simp)) ?_
   try simp only [Act.put,aA,aZ,aS]
   refine tk 9 rfl ?_
   try simp only [Act.put,aA,aZ,aS]
   refine tk 10 rfl ?_
   try simp only [Act.put,aA,aZ,aS]
   refine wpAnyG_takeA 11 rfl (by kernel_rfl) (λ_ _ _ h=>h) (λ_=>YieldsG.pure (by rfl) (λw9 _=>by go_simp; try with_reducible rfl)) ?_
   try simp only [Act.put,aA,aZ,aS]
   refine tk 12 rfl ?_
   try simp only [Act.put,aA,aZ,aS]
   refine wpAnyG_sole 13 rfl (by kernel_rfl) (by rfl) (λu hu K hK=>?_)
   have BX:=Gr.blk hu BX
   have BY:=Gr.blk hu BY
   have BW:=Gr.blk hu BW
   have hb:=Below.gr hb hu
   have pc:u.cell? ⟨w.heap.size+2,3,none⟩=some (.int .u64 0):=BW.cell 3
   have pf:=BW.frozen 3
   clear hu px py
   go_simp
   refine hK _ _ (λe=>by cases e) ?_
   clear hK K
   have hb:=hb.setCell (p:=⟨w.heap.size+2,3,none⟩) (by show w.heap.size≤w.heap.size+2; omega) (.int .u64 (s3:Int))
   have BX:=BX.far (p:=⟨w.heap.size+2,3,none⟩) (by show w.heap.size≠w.heap.size+2; omega) (.int .u64 (s3:Int))
   have BY:=BY.far (p:=⟨w.heap.size+2,3,none⟩) (by show w.heap.size+1≠w.heap.size+2; omega) (.int .u64 (s3:Int))
   have BW:=BW.set_ 3 (.int .u64 (s3:Int))
   refine wpAnyG_takeA 14 rfl (by kernel_rfl) (λ_ _ _ h=>h) (λ_=>YieldsG.pure (by rfl) (λw9 _=>by go_simp; try with_reducible rfl)) ?_
   try simp only [Act.put,aA,aZ,aS]
   refine wpAnyG_done (by kernel_rfl) (λv hv=>?_)
   have hb:=Below.gr hb hv
   have BX:=Gr.blk hv BX
   have BY:=Gr.blk hv BY
   have BW:=Gr.blk hv BW
   clear hv pc pf
   go_wp2
   refine ⟨⟨hb,BX,BY,Lib.hid (.inr (.inr (.inr (.inr (⟨rfl,rfl,BW⟩)))))⟩,by decide⟩
  ·clear HI
   obtain ⟨s,hsd⟩:∃ s,s=s0+18446744073709551616*s1+340282366920938463463374607431768211456*s2+6277101735386680763835789423207666416102355444464034512896*s3:=⟨_,rfl⟩
   have hf:=hs.out
   have hl:=hlt.out
   have hn:=HF.out
   rw [← hsd] at hf hl hn
   have BS:=BW.eq_ (fcs_words hf.symm).symm
   have HS:=Lib.hid (And.intro hl hn)
   clear hf hl hn hsd
   go_wp2_with (first | ((with_reducible refine here_load (d:=some 24) ?_); refine wpList_load_fv rfl _ _ rfl (w.heap.size+2) rfl (s) _ _ _ (BS) (fv_fcs s) Tryz.underlying76 rfl (by kernel_rfl) ?_) | ((with_reducible refine here_store ?_); refine wpList_store_blk rfl _ _ _ rfl (w.heap.size+2) (fcs (s)) rfl rfl _ _ (BS) (by kernel_rfl) (by rfl) (fcs_one _) ?_; intro w9 hL9 hB9 hK9))
   exact bodyPost_ret (res_cell_tmp rfl _ _ (w.heap.size+2) _ _ _ _ rfl hL9 rfl Tryz.underlying76 rfl (by kernel_rfl)) rfl ⟨⟨s,c3,HS.out.1,HK.out,HS.out.2,rfl⟩,hb.trans (hB9 _ (by omega))⟩
theorem minus_fv (w:World) (x y s k:Nat) (hx:x<(2^256)) (hy:y<(2^256)) (hs:s<(2^256)) (he:s+y=x+(2^256)*k) :
  Calls Tryz.prog 286 #[fv x,fv y] w λe w'=>e=.returned (.tuple #[fv s,.int .u64 (k:Int)])∧Below w.heap.size w w':=by
 refine (minus_any w x y hx hy).mono ?_
 rintro e w' ⟨⟨s',k',hs',hk',he',rfl⟩,hb⟩
 obtain rfl:k'=k:=by omega
 obtain rfl:s'=s:=by omega
 exact ⟨rfl,hb⟩
theorem order_at (w:World) (p:Nat) (hp:p=115792089237316195423570985008687907852837564279074904382605163141518161494337):Calls Tryz.prog 287 #[] w λe w'=>e=.returned (fv p)∧Below w.heap.size w w':=by
 subst hp; exact order_any w
set_option maxHeartbeats 2000000 in
set_option maxRecDepth 100000 in
theorem reduce_at (w:World) (x k z:Nat) (dk:Int) (hdk:dk=(k:Int)) (hx:x<(2^256)) (hk:k≤1) (h2:x+(2^256)*k<115792089237316195423570985008687907852837564279074904382605163141518161494337+115792089237316195423570985008687907852837564279074904382605163141518161494337) (hz:z=(x+(2^256)*k)%pM):Calls Tryz.prog 257 #[fv x,.int .u64 dk] w λe w'=>e=.returned (fv z)∧Below w.heap.size w w':=by
 subst hdk
 obtain ⟨p,hp⟩:∃ p,p=115792089237316195423570985008687907852837564279074904382605163141518161494337:=⟨_,rfl⟩
 rw [pM_eq, ← hp] at hz
 rw [← hp] at h2
 have hpl:p<(2^256):=by omega
 obtain ⟨s,b,hs,hb,he⟩:∃ s b:Nat,s<(2^256)∧b≤1∧s+p=x+(2^256)*b:=by
  by_cases h:p≤x
  ·exact ⟨x - p,0,by omega,by omega,by omega⟩
  ·exact ⟨x+(2^256) - p,1,by omega,by omega,by omega⟩
 have cm:=λw=>minus_fv w x p s b hx hpl hs he
 have co:=λw=>order_at w p hp
 have t1:b>k→z=x:=λh=>by
  obtain rfl:k=0:=by omega
  rw [hz,Nat.mod_eq_of_lt (by omega)]; omega
 have t2:¬ b>k→z=s:=λh=>by
  rw [hz,Nat.mod_eq_sub_mod (by omega),Nat.mod_eq_of_lt (by omega)]
  rcases (show k=0∨k=1 by omega) with rfl | rfl <;> omega
 obtain ⟨x0,x1,x2,x3,fx⟩:=words_fv x hx
 have FX:=Lib.hid fx
 rw [fx]
 clear fx hx hz hp h2 hpl hs hb he hk
 go_enter Tryz.func257,Tryz.ntmps257
 go_wp2
 refine wp_region_G (λj=>j == 7) (by kernel_rfl) ?_
 try simp only [Act.put]
 refine tkw 0 rfl (YieldsG.loadF (by rfl) _ _ rfl (w.heap.size) rfl (x) _ _ ((Blk.new w _ _).alloc _) (FX.out) Tryz.underlying76 rfl (by kernel_rfl)) ?_
 try simp only [Act.put,aA,aZ,aS]
 refine tkw 1 rfl (YieldsG.call (v:=fv p) (by rfl) 287 _ (λw9=>by go_simp; try (first | with_reducible rfl | rfl)) (λw9 h9=>co w9)) ?_
 try simp only [Act.put,aA,aZ,aS]
 refine tkw 2 rfl (YieldsG.call (v:=.tuple #[fv s,.int .u64 (b:Int)]) (by rfl) 286 _ (λw9=>by go_simp; try (first | with_reducible rfl | rfl)) (λw9 h9=>cm w9)) ?_
 try simp only [Act.put,aA,aZ,aS]
 refine tk 3 rfl ?_
 try simp only [Act.put,aA,aZ,aS]
 refine tk 4 rfl ?_
 try simp only [Act.put,aA,aZ,aS]
 refine wpAnyG_takeA 5 rfl (by kernel_rfl) (λ_ _ _ h=>h) (λ_=>YieldsG.pure (by rfl) (λw9 _=>by go_simp; try with_reducible rfl)) ?_
 try simp only [Act.put,aA,aZ,aS]
 refine wpAnyG_sole 6 rfl (by kernel_rfl) (by rfl) (λw3 h3 K hK=>?_)
 go_simp
 refine hK _ _ (λ_=>gr_alloc _ _) ?_
 clear hK K
 try simp only [Act.put,aA,aZ,aS]
 refine wpAnyG_store 7 rfl (by kernel_rfl) (by rfl) _ _ _ rfl (w3.heap.size) (fcs (s)) rfl rfl _ _ (Blk.new w3 _ _) (by kernel_rfl) (by rfl) (fcs_one _) rfl (λw6 h6 w7 hB7 hL7=>?_)
 try simp only [Act.put]
 refine wpAnyG_takeA 8 rfl (by kernel_rfl) (λ_ _ _ h=>h) (λ_=>YieldsG.pure (by rfl) (λw9 _=>by go_simp; try with_reducible rfl)) ?_
 try simp only [Act.put,aA,aZ,aS]
 refine wpAnyG_done (by kernel_rfl) (λw8 h8=>?_)
 have BS:=Gr.blk h8 hL7
 have hsz:w.heap.size+2≤w3.heap.size:=by have:=h3.size; simp at this; omega
 have BX:Blk w8 w.heap.size 76 _:=Gr.blk h8 (Blk.below (B:=w3.heap.size) (Gr.blk h6 (Blk.alloc (Gr.blk h3 ((Blk.new w _ _).alloc _)) _)) (hB7 _ (Nat.le_refl _)) (by omega))
 have BR:Blk w8 (w.heap.size+1) 76 _:=Gr.blk h8 (Blk.below (B:=w3.heap.size) (Gr.blk h6 (Blk.alloc (Gr.blk h3 (blk_new2 w _ _ _)) _)) (hB7 _ (Nat.le_refl _)) (by omega))
 have hB:Below w.heap.size w w8:=Below.gr ((Below.gr ((Below.gr (below_alloc2 w _ _) h3).alloc (by omega) _) h6).trans (hB7 _ (by omega))) h8
 clear h3 h6 hB7 hL7 h8 cm co
 by_cases hbk:b>k
 ·have HZ:=Lib.hid (t1 hbk)
  have p0:(b:Int)>(k:Int):=by omega
  clear t1 t2 hbk
  go_wp2_with (first | ((with_reducible refine here_load (d:=some 16) ?_); refine wpList_load_fv rfl _ _ rfl (w.heap.size) rfl (x) _ _ _ (BX) (FX.out) Tryz.underlying76 rfl (by kernel_rfl) ?_) | ((with_reducible refine here_store ?_); refine wpList_store_blk rfl _ _ _ rfl (w.heap.size+1) (fcs (x)) rfl rfl _ _ (BR) (by kernel_rfl) (by rfl) (fcs_one _) ?_; intro w9 hL9 hB9 hK9))
  exact bodyPost_ret (results_cell_row rfl _ _ (w.heap.size+1) _ _ (0,0) _ rfl hL9 Tryz.underlying76 rfl (by kernel_rfl)) rfl ⟨by rw [HZ.out]; rfl,hB.trans (hB9 _ (by omega))⟩
 ·have HZ:=Lib.hid (t2 hbk)
  have p0:¬ (b:Int)>(k:Int):=by omega
  clear t1 t2 hbk
  go_wp2_with (first | ((with_reducible refine here_load (d:=some 17) ?_); refine wpList_load_fv rfl _ _ rfl (w3.heap.size) rfl (s) _ _ _ (BS) (fv_fcs s) Tryz.underlying76 rfl (by kernel_rfl) ?_) | ((with_reducible refine here_store ?_); refine wpList_store_blk rfl _ _ _ rfl (w.heap.size+1) (fcs (s)) rfl rfl _ _ (BR) (by kernel_rfl) (by rfl) (fcs_one _) ?_; intro w9 hL9 hB9 hK9))
  exact bodyPost_ret (results_cell_row rfl _ _ (w.heap.size+1) _ _ (0,0) _ rfl hL9 Tryz.underlying76 rfl (by kernel_rfl)) rfl ⟨by rw [HZ.out]; rfl,hB.trans (hB9 _ (by omega))⟩
set_option maxHeartbeats 1000000 in
theorem norm_any (w:World) (x:Nat) (hx:x<(2^256)):Calls Tryz.prog 213 #[fv x] w λe w'=>e=.returned (fv (x%pM))∧Below w.heap.size w w':=by
 obtain ⟨z,hz⟩:∃ z,z=x%pM:=⟨_,rfl⟩
 have cr:=λw=>reduce_at w x 0 z 0 rfl hx (by omega) (by omega) (by rw [hz]; rfl)
 obtain ⟨x0,x1,x2,x3,fx⟩:=words_fv x hx
 have FX:=Lib.hid fx
 rw [fx] at cr ⊢
 rw [← hz]
 clear fx hx hz
 go_enter Tryz.func213,Tryz.ntmps213
 go_wp2_with fail
 refine (cr _).mono ?_
 rintro e w1 ⟨rfl,hb1⟩
 have hg:=Below.gr (below_alloc2 w _ _) hb1
 have hR:Blk w1 (w.heap.size+1) 76 _:=Gr.blk hb1 (blk_new2 w _ _ _)
 go_wp2_with (first | ((with_reducible refine here_store ?_); refine wpList_store_blk rfl _ _ _ rfl (w.heap.size+1) (fcs (z)) rfl rfl _ _ (hR) (by kernel_rfl) (by rfl) (fcs_one _) ?_; intro w4 hL hB4 hK4))
 exact bodyPost_ret (results_cell_row rfl _ _ (w.heap.size+1) _ _ (0,0) _ rfl hL Tryz.underlying76 rfl (by kernel_rfl)) rfl ⟨rfl,hg.trans (hB4 _ (by omega))⟩
set_option maxHeartbeats 8000000 in
set_option maxRecDepth 100000 in
theorem bytes_any (w:World) (x:Nat) (hx:x<(2^256)):Calls Tryz.prog 214 #[fv x] w λe w'=>e=.returned (.agg ((bytesS (x%pM)).map bv).toArray)∧Below w.heap.size w w':=by
 obtain ⟨z,hz⟩:∃ z,z=x%pM:=⟨_,rfl⟩
 have hzl:z<(2^256):=by rw [hz]; exact mod_lt x
 have cn:∀ w,Calls Tryz.prog 213 #[fv x] w λe w'=>e=.returned (fv z)∧Below w.heap.size w w':=by
  intro w; rw [hz]; exact norm_any w x hx
 rw [← hz]
 obtain ⟨z0,z1,z2,z3,a0,a1,a2,a3,ez,fz⟩:=words_of z hzl
 have HZ:=Lib.hid (And.intro a0 (And.intro a1 (And.intro a2 (And.intro a3 ez))))
 have FZ:=Lib.hid fz
 obtain ⟨x0,x1,x2,x3,fx⟩:=words_fv x hx
 rw [fx] at cn ⊢
 clear fx fz hz hzl a0 a1 a2 a3 ez hx
 have hZB:Hid ((List.replicate 32 (Value.int .u8 0)).toArray=((partB z 0).map bv).toArray):=Lib.hid (by simp [partB,lowB,bv])
 go_enter Tryz.func214,Tryz.ntmps214
 go_wp2_with fail
 refine (cn _).mono ?_
 rintro e w1 ⟨rfl,hb⟩
 have BR:Blk w1 (w.heap.size+1) 27 _:=Gr.blk hb (Blk.alloc (blk_new2 w _ _ _) _)
 have BB:Blk w1 (w.heap.size+2) 27 ((partB z 0).map bv).toArray:=Blk.eq_ (Gr.blk hb (blk_new3 w _ _ _ _)) hZB.out
 have hB:=Below.gr (below_alloc3 w _ _ _) hb
 have sz:=BB.lt
 clear hb cn
 go_wp2_with (first | ((with_reducible refine here_store ?_); refine wpList_store_blk rfl _ _ _ rfl (w1.heap.size) (fcs (z)) rfl rfl _ _ (Blk.new w1 _ _) (by kernel_rfl) (by rfl) (fcs_one _) ?_; intro w2 hL2 hB2 hK2; have CR:=hK2 _ (by omega) _ _ (BR.alloc _); have CB:=hK2 _ (by omega) _ _ (BB.alloc _); have hC:=(hB.alloc (by omega) _).trans (hB2 _ (by omega))))
 go_loopw [8] (λi wr=>∃ k:Nat,k≤32∧i=.int .i64 (k:Int)∧Below w.heap.size w wr∧Blk wr (w.heap.size+2) 27 ((partB z k).map bv).toArray∧Blk wr w1.heap.size 76 #[.int .u64 (z0:Int),.int .u64 (z1:Int),.int .u64 (z2:Int),.int .u64 (z3:Int)]∧Blk wr (w.heap.size+1) 27 (List.replicate 32 (Value.int .u8 0)).toArray) (λi _=>32 - (RowKit.intOf i).toNat)
 case atStart=>exact ⟨0,by omega,rfl,hC,CB,hL2.eq_ (fcs_words FZ.out),CR⟩
 case round =>
  obtain ⟨k,hk,rfl,hb,hP,hN,hR⟩:=hrel
  by_cases hlt:k<32
  ·have ce:∀ j,j<32→∃ v,wr.cell? ⟨w.heap.size+1+1,j,none⟩=some v:=λj hj=>⟨_,(hP.cell j).trans (Array.getElem?_eq_getElem (by simp [partB_length z k hk]; exact hj))⟩
   obtain ⟨v,hv⟩:=ce (31 - k) (by omega)
   have ff:=hP.frozen (31 - k)
   have q0:wr.cell? ⟨w1.heap.size,0,none⟩=some (.int .u64 (z0:Int)):=hN.cell 0
   have q1:wr.cell? ⟨w1.heap.size,1,none⟩=some (.int .u64 (z1:Int)):=hN.cell 1
   have q2:wr.cell? ⟨w1.heap.size,2,none⟩=some (.int .u64 (z2:Int)):=hN.cell 2
   have q3:wr.cell? ⟨w1.heap.size,3,none⟩=some (.int .u64 (z3:Int)):=hN.cell 3
   have hPn:=hP.set_ (31 - k) (bv (byteN z k))
   rw [partB_set z k hlt] at hPn
   have HP:=Lib.hid hPn
   clear hPn ce
   have HR:=Lib.hid (And.intro hb (And.intro hN hR))
   clear hb hP hN hR hk
   have hsz:w.heap.size+2<w1.heap.size:=sz
   rcases (show k=0∨k=1∨k=2∨k=3∨k=4∨k=5∨k=6∨k=7∨k=8∨k=9∨k=10∨k=11∨k=12∨k=13∨k=14∨k=15∨k=16∨k=17∨k=18∨k=19∨k=20∨k=21∨k=22∨k=23∨k=24∨k=25∨k=26∨k=27∨k=28∨k=29∨k=30∨k=31 by omega) with rfl | rfl | rfl | rfl | rfl | rfl | rfl | rfl | rfl | rfl | rfl | rfl | rfl | rfl | rfl | rfl | rfl | rfl | rfl | rfl | rfl | rfl | rfl | rfl | rfl | rfl | rfl | rfl | rfl | rfl | rfl | rfl
   all_goals
    go_wp2
    obtain ⟨a0,a1,a2,a3,ez⟩:=HZ.out
    refine ⟨⟨_,by decide,rfl,HR.out.1.setCell (by show w.heap.size≤w.heap.size+1+1; omega) _,HP.out.val (by rw [bv_byteN]; congr 1; omega),HR.out.2.1.far (by show w1.heap.size≠w.heap.size+1+1; omega) _,HR.out.2.2.far (by show w.heap.size+1≠w.heap.size+1+1; omega) _⟩,by simp [RowKit.intOf]⟩
  ·have p1:¬ (k:Int)<32:=by omega
   obtain rfl:k=32:=by omega
   rw [partB_full] at hP
   have HI:=Lib.hid (bytesS_length z)
   have HL:=Lib.hid hP
   have HR:=Lib.hid hR
   clear hN hP hR
   go_wp2_with (first | ((with_reducible refine here_load (d:=some 24) ?_); refine wpList_load_blk rfl _ _ rfl (w.heap.size+2) rfl _ _ _ HL.out Tryz.underlying27 rfl (b32_info HI.out) ?_) | ((with_reducible refine here_store ?_); refine wpList_store_blk rfl _ _ _ rfl (w.heap.size+1) ((bytesS z).map bv).toArray rfl rfl _ _ HR.out (b32_info HI.out) (by simp [HI.out]) (b32_one _) ?_; intro w9 hL9 hB9 hK9))
   exact bodyPost_ret (results_cell_row rfl _ _ (w.heap.size+1) _ _ (0,0) _ rfl hL9 Tryz.underlying27 rfl (b32_info HI.out)) rfl ⟨rfl,hb.trans (hB9 _ (by omega))⟩
end Sc
end
section
namespace Sc
open Go.RowKit Go.Lib
end Sc
end
section
namespace Sc
open Go.RowKit Go.Lib
set_option maxRecDepth 100000
end Sc
end
section
namespace Sc
open Go.RowKit Go.Lib
theorem run_equalIn_fv (W:World) (n m:Nat) (hn:n<(2^256)) (hm:m<(2^256)):(Op.equalIn 10000 76 (fv n) (fv m)).run Tryz.prog W=.ok (decide (n=m)) W:=by
 rw [fv_wl,fv_wl]
 have h:=run_equalIn_words W 9998 76 22 4 Tryz.underlying76 Tryz.underlying22 (λW=>by kernel_rfl) (wl n) (wl m) rfl rfl
 rw [wl_beq hn hm] at h
 exact h
theorem run_eql_fv (W:World) (n m:Nat) (hn:n<(2^256)) (hm:m<(2^256)):(binOp .eql 76 (fv n) (fv m)).run Tryz.prog W=.ok (.bool (decide (n=m))) W:=by
 have h:=run_equalIn_fv W n m hn hm
 rw [fv_wl,fv_wl] at h ⊢
 rw [run_eql_struct,h]
 rfl
theorem run_neq_fv (W:World) (n m:Nat) (hn:n<(2^256)) (hm:m<(2^256)):(binOp .neq 76 (fv n) (fv m)).run Tryz.prog W=.ok (.bool (decide (n≠m))) W:=by
 have h:=run_equalIn_fv W n m hn hm
 rw [fv_wl,fv_wl] at h ⊢
 rw [run_neq_struct,h]
 by_cases e:n=m <;> simp [e]
theorem run_eqGuard_fv (op:BinOp) (x y:Operand) (n m:Nat) (W:World):(eqGuard op 76 x y (fv n) (fv m)).run Tryz.prog W=.ok () W:=by
 rw [fv_fcs,fv_fcs]
 go_simp
end Sc
end
section
namespace Sc
open Go.RowKit Go.Lib
set_option maxHeartbeats 8000000 in
set_option maxRecDepth 100000 in
theorem words_any (w:World) (l:List UInt8) (hl:l.length=32):Calls Tryz.prog 258 #[.agg (l.map bv).toArray] w λe w'=>e=.returned (fv (valB l))∧Below w.heap.size w w':=by
 have HL:=Lib.hid hl
 clear hl
 go_enter Tryz.func258,Tryz.ntmps258
 go_wp2_with (first | ((with_reducible refine here_load (d:=some 6) ?_); refine wpList_load_blk rfl _ _ rfl w.heap.size rfl _ _ _ (((Blk.new w _ _).alloc _).alloc _) Tryz.underlying27 rfl (b32_info HL.out) ?_))
 go_loopw [7] (λi wr=>∃ k y0 y1 y2 y3:Nat,k≤32∧i=.int .i64 (k:Int)∧Hid (y0=wdB l k 0∧y1=wdB l k 1∧y2=wdB l k 2∧y3=wdB l k 3)∧Below w.heap.size w wr∧Blk wr (w.heap.size+2) 76 #[.int .u64 (y3:Int),.int .u64 (y2:Int),.int .u64 (y1:Int),.int .u64 (y0:Int)]∧Blk wr (w.heap.size+1) 76 #[.int .u64 0,.int .u64 0,.int .u64 0,.int .u64 0]) (λi _=>32 - (RowKit.intOf i).toNat)
 case atStart=>exact ⟨0,0,0,0,0,by omega,rfl,Lib.hid ⟨(wdB_zero l 0).symm,(wdB_zero l 1).symm,(wdB_zero l 2).symm,(wdB_zero l 3).symm⟩,below_alloc3 w _ _ _,blk_new3 w _ _ _ _,(blk_new2 w _ _ _).alloc _⟩
 case round =>
  obtain ⟨k,y0,y1,y2,y3,hk,rfl,HY,hb,hP,hR⟩:=hrel
  have q3:wr.cell? ⟨w.heap.size+1+1,0,none⟩=some (.int .u64 (y3:Int)):=hP.cell 0
  have q2:wr.cell? ⟨w.heap.size+1+1,1,none⟩=some (.int .u64 (y2:Int)):=hP.cell 1
  have q1:wr.cell? ⟨w.heap.size+1+1,2,none⟩=some (.int .u64 (y1:Int)):=hP.cell 2
  have q0:wr.cell? ⟨w.heap.size+1+1,3,none⟩=some (.int .u64 (y0:Int)):=hP.cell 3
  have ff:∀ j,wr.frozen? ⟨w.heap.size+1+1,j,none⟩=false:=λj=>hP.frozen j
  by_cases hlt:k<32
  ·obtain ⟨c,hc⟩:∃ c,l[k]? = some c:=⟨l[k]'(by rw [HL.out]; exact hlt),List.getElem?_eq_getElem _⟩
   have HC:=Lib.hid hc
   obtain ⟨m,hm⟩:∃ m,m=c.toNat:=⟨_,rfl⟩
   have hm8:m<256:=by rw [hm]; exact c.toNat_lt
   have hI:∀ W,(Instr.index 27 (.agg (l.map bv).toArray) (.int .i64 (k:Int))).run Tryz.prog W=.ok (.int .u8 (m:Int)) W:=λW=>by
    rw [run_index_b32 W l k c hc hlt,hm]; rfl
   have HM:=Lib.hid hm
   have HR:=Lib.hid (And.intro hb (And.intro hP hR))
   clear hb hP hR hc hk hm
   rcases (show k=0∨k=1∨k=2∨k=3∨k=4∨k=5∨k=6∨k=7∨k=8∨k=9∨k=10∨k=11∨k=12∨k=13∨k=14∨k=15∨k=16∨k=17∨k=18∨k=19∨k=20∨k=21∨k=22∨k=23∨k=24∨k=25∨k=26∨k=27∨k=28∨k=29∨k=30∨k=31 by omega) with rfl | rfl | rfl | rfl | rfl | rfl | rfl | rfl | rfl | rfl | rfl | rfl | rfl | rfl | rfl | rfl | rfl | rfl | rfl | rfl | rfl | rfl | rfl | rfl | rfl | rfl | rfl | rfl | rfl | rfl | rfl | rfl
   all_goals
    simp only [Int.cast_ofNat_Int] at hI
   all_goals
    first
    | ((have hy:y0<72057594037927936:=by rw [HY.out.1]; exact wdB_lt l _ 0 (by decide)); (have ho:=or_add y0 m hy hm8); go_wp2; (refine ⟨⟨_,y0*256+m,y1,y2,y3,by decide,rfl,Lib.hid ⟨by rw [HY.out.1,HM.out]; exact (wdB_step l _ 0 c HC.out (by decide)).symm,by rw [HY.out.2.1]; exact (wdB_same l _ 1 (by decide)).symm,by rw [HY.out.2.2.1]; exact (wdB_same l _ 2 (by decide)).symm,by rw [HY.out.2.2.2]; exact (wdB_same l _ 3 (by decide)).symm⟩,HR.out.1.setCell (by show w.heap.size≤w.heap.size+1+1; omega) _,Blk.eq_ (HR.out.2.1.set_ 3 _) (by rw [show ((y0*256+m:Nat):Int)=(y0:Int)*256+(m:Int) by omega]; rfl),HR.out.2.2.far (by show w.heap.size+1≠w.heap.size+1+1; omega) _⟩,by simp [RowKit.intOf]⟩))
    | ((have hy:y1<72057594037927936:=by rw [HY.out.2.1]; exact wdB_lt l _ 1 (by decide)); (have ho:=or_add y1 m hy hm8); go_wp2; (refine ⟨⟨_,y0,y1*256+m,y2,y3,by decide,rfl,Lib.hid ⟨by rw [HY.out.1]; exact (wdB_same l _ 0 (by decide)).symm,by rw [HY.out.2.1,HM.out]; exact (wdB_step l _ 1 c HC.out (by decide)).symm,by rw [HY.out.2.2.1]; exact (wdB_same l _ 2 (by decide)).symm,by rw [HY.out.2.2.2]; exact (wdB_same l _ 3 (by decide)).symm⟩,HR.out.1.setCell (by show w.heap.size≤w.heap.size+1+1; omega) _,Blk.eq_ (HR.out.2.1.set_ 2 _) (by rw [show ((y1*256+m:Nat):Int)=(y1:Int)*256+(m:Int) by omega]; rfl),HR.out.2.2.far (by show w.heap.size+1≠w.heap.size+1+1; omega) _⟩,by simp [RowKit.intOf]⟩))
    | ((have hy:y2<72057594037927936:=by rw [HY.out.2.2.1]; exact wdB_lt l _ 2 (by decide)); (have ho:=or_add y2 m hy hm8); go_wp2; (refine ⟨⟨_,y0,y1,y2*256+m,y3,by decide,rfl,Lib.hid ⟨by rw [HY.out.1]; exact (wdB_same l _ 0 (by decide)).symm,by rw [HY.out.2.1]; exact (wdB_same l _ 1 (by decide)).symm,by rw [HY.out.2.2.1,HM.out]; exact (wdB_step l _ 2 c HC.out (by decide)).symm,by rw [HY.out.2.2.2]; exact (wdB_same l _ 3 (by decide)).symm⟩,HR.out.1.setCell (by show w.heap.size≤w.heap.size+1+1; omega) _,Blk.eq_ (HR.out.2.1.set_ 1 _) (by rw [show ((y2*256+m:Nat):Int)=(y2:Int)*256+(m:Int) by omega]; rfl),HR.out.2.2.far (by show w.heap.size+1≠w.heap.size+1+1; omega) _⟩,by simp [RowKit.intOf]⟩))
    | ((have hy:y3<72057594037927936:=by rw [HY.out.2.2.2]; exact wdB_lt l _ 3 (by decide)); (have ho:=or_add y3 m hy hm8); go_wp2; (refine ⟨⟨_,y0,y1,y2,y3*256+m,by decide,rfl,Lib.hid ⟨by rw [HY.out.1]; exact (wdB_same l _ 0 (by decide)).symm,by rw [HY.out.2.1]; exact (wdB_same l _ 1 (by decide)).symm,by rw [HY.out.2.2.1]; exact (wdB_same l _ 2 (by decide)).symm,by rw [HY.out.2.2.2,HM.out]; exact (wdB_step l _ 3 c HC.out (by decide)).symm⟩,HR.out.1.setCell (by show w.heap.size≤w.heap.size+1+1; omega) _,Blk.eq_ (HR.out.2.1.set_ 0 _) (by rw [show ((y3*256+m:Nat):Int)=(y3:Int)*256+(m:Int) by omega]; rfl),HR.out.2.2.far (by show w.heap.size+1≠w.heap.size+1+1; omega) _⟩,by simp [RowKit.intOf]⟩))
  ·have p1:¬ (k:Int)<32:=by omega
   obtain rfl:k=32:=by omega
   have b0:y0<18446744073709551616:=by rw [HY.out.1]; exact wdB_lt8 l _ _
   have b1:y1<18446744073709551616:=by rw [HY.out.2.1]; exact wdB_lt8 l _ _
   have b2:y2<18446744073709551616:=by rw [HY.out.2.2.1]; exact wdB_lt8 l _ _
   have b3:y3<18446744073709551616:=by rw [HY.out.2.2.2]; exact wdB_lt8 l _ _
   obtain ⟨z,hz⟩:∃ z,z=y3+18446744073709551616*y2+340282366920938463463374607431768211456*y1+6277101735386680763835789423207666416102355444464034512896*y0:=⟨_,rfl⟩
   have fz:=fv_mk y3 y2 y1 y0 b3 b2 b1 b0
   rw [← hz] at fz
   have hzv:valB l=z:=by rw [wdB_all l HL.out,hz,HY.out.1,HY.out.2.1,HY.out.2.2.1,HY.out.2.2.2]
   have HZ:=Lib.hid hzv
   have FZ:=Lib.hid fz.symm
   have HP:=Lib.hid hP
   have HR:=Lib.hid hR
   clear HY b0 b1 b2 b3 hz fz hzv q0 q1 q2 q3 ff hP hR
   go_wp2_with (first | ((with_reducible refine here_load (d:=some 25) ?_); refine wpList_load_fv rfl _ _ rfl (w.heap.size+2) rfl (z) _ _ _ (HP.out) (FZ.out) Tryz.underlying76 rfl (by kernel_rfl) ?_) | ((with_reducible refine here_store ?_); refine wpList_store_blk rfl _ _ _ rfl (w.heap.size+1) (fcs (z)) rfl rfl _ _ (HR.out) (by kernel_rfl) (by rfl) (fcs_one _) ?_; intro vz hLz hqz hKz))
   exact bodyPost_ret (results_cell_row rfl _ _ (w.heap.size+1) _ _ (0,0) _ rfl hLz Tryz.underlying76 rfl (by kernel_rfl)) rfl ⟨by rw [HZ.out]; rfl,hb.trans (hqz _ (by omega))⟩
def readS (l:List UInt8):Nat×Bool:=if valB l<pM then (valB l,true) else (0,false)
set_option maxHeartbeats 2000000 in
set_option maxRecDepth 100000 in
theorem read_any (w:World) (l:List UInt8) (hl:l.length=32):Calls Tryz.prog 215 #[.agg (l.map bv).toArray] w λe w'=>e=.returned (.tuple #[fv (readS l).1,.bool (readS l).2])∧Below w.heap.size w w':=by
 obtain ⟨z,hz⟩:∃ z,z=valB l:=⟨_,rfl⟩
 have hzl:z<(2^256):=by rw [hz]; exact valB_lt32 l hl
 obtain ⟨n,hn⟩:∃ n,n=z%pM:=⟨_,rfl⟩
 have hnl:n<(2^256):=by rw [hn]; exact mod_lt z
 obtain ⟨b,hbd⟩:∃ b,b=decide (n≠z):=⟨_,rfl⟩
 have eb:∀ W,(binOp .neq 76 (fv n) (fv z)).run Tryz.prog W=.ok (.bool b) W:=λW=>by rw [hbd]; exact run_neq_fv W n z hnl hzl
 have cw:∀ w,Calls Tryz.prog 258 #[.agg (l.map bv).toArray] w λe w'=>e=.returned (fv z)∧Below w.heap.size w w':=by
  intro w; rw [hz]; exact words_any w l hl
 have cn:∀ w,Calls Tryz.prog 213 #[fv z] w λe w'=>e=.returned (fv n)∧Below w.heap.size w w':=by
  intro w; rw [hn]; exact norm_any w z hzl
 have hS:readS l=if b=true then (0,false) else (z,true):=by
  unfold readS
  rw [← hz,hbd,hn]
  by_cases h:z<pM
  ·rw [if_pos h,Nat.mod_eq_of_lt h]; simp
  ·have h2:z%pM≠z:=λe=>h (by rw [← e]; exact mod_lt_p z)
   rw [if_neg h]; simp [h2]
 have HS:=Lib.hid hS
 have HL:=Lib.hid hl
 clear hl hz hzl hn hnl hbd hS
 go_enter Tryz.func215,Tryz.ntmps215
 go_wp2_with (first | ((with_reducible refine here_load (d:=some 5) ?_); refine wpList_load_blk rfl _ _ rfl w.heap.size rfl _ _ _ ((Blk.new w _ _).alloc _) Tryz.underlying27 rfl (b32_info HL.out) ?_))
 refine (cw _).mono ?_
 rintro e w1 ⟨rfl,k1⟩
 have BR:=Gr.blk k1 (blk_new2 w _ _ _)
 have sz:=BR.lt
 have hB:=Below.gr (below_alloc2 w _ _) k1
 clear k1 cw
 go_wp2_with (first | ((with_reducible refine here_store ?_); refine wpList_store_blk rfl _ _ _ rfl (w1.heap.size) (fcs (z)) rfl rfl _ _ (Blk.new w1 _ _) (by kernel_rfl) (by rfl) (fcs_one _) ?_; intro w2 hL2 hq2 hK2; have CR:=hK2 _ (by omega) _ _ (BR.alloc _); have hB2:=(hB.alloc (by omega) _).trans (hq2 _ (by omega))))
 refine wp_region_G (λ_=>false) (by kernel_rfl) ?_
 try simp only [Act.put]
 refine tkw 0 rfl (YieldsG.loadF (by rfl) _ _ rfl (w1.heap.size) rfl (z) _ _ (hL2) (fv_fcs _) Tryz.underlying76 rfl (by kernel_rfl)) ?_
 try simp only [Act.put,aA,aZ,aS]
 refine tkw 1 rfl (YieldsG.call (v:=fv n) (by rfl) 213 _ (λw9=>by go_simp; try (first | with_reducible rfl | rfl)) (λw9 h9=>cn w9)) ?_
 try simp only [Act.put,aA,aZ,aS]
 refine tkw 2 rfl (YieldsG.loadF (by rfl) _ _ rfl (w1.heap.size) rfl (z) _ _ (hL2) (fv_fcs _) Tryz.underlying76 rfl (by kernel_rfl)) ?_
 try simp only [Act.put,aA,aZ,aS]
 refine tkw 3 rfl (YieldsG.pure (v:=.bool b) (by rfl) (λw9 h9=>by go_simp; rw [run_eqGuard_fv]; simp only [Result.andThen_ok])) ?_
 try simp only [Act.put,aA,aZ,aS]
 refine wpAnyG_done (by kernel_rfl) (λu hu=>?_)
 have hbu:=Below.gr hB2 hu
 have BRu:=Gr.blk hu CR
 have BP:=Gr.blk hu hL2
 clear hu hB2 CR hL2 eb cn
 cases b
 ·have HT:Hid (readS l=(z,true)):=Lib.hid (by rw [HS.out]; rfl)
  clear HS
  go_wp2_with (first | ((with_reducible refine here_load (d:=some 12) ?_); refine wpList_load_fv rfl _ _ rfl (w1.heap.size) rfl (z) _ _ _ (BP) (fv_fcs _) Tryz.underlying76 rfl (by kernel_rfl) ?_) | ((with_reducible refine here_store ?_); refine wpList_store_blk rfl _ _ _ rfl (w.heap.size+1) (fcs (z)) rfl rfl _ _ (BRu) (by kernel_rfl) (by rfl) (fcs_one _) ?_; intro vz hLz hqz hKz))
  exact bodyPost_ret (res_cell_tmp rfl _ _ (w.heap.size+1) _ _ _ _ rfl hLz rfl Tryz.underlying76 rfl (by kernel_rfl)) rfl ⟨by rw [HT.out]; rfl,hbu.trans (hqz _ (by omega))⟩
 ·have HT:Hid (readS l=(0,false)):=Lib.hid (by rw [HS.out]; rfl)
  clear HS
  go_wp2_with (first | ((with_reducible refine here_store ?_); refine wpList_store_blk rfl _ _ _ rfl (w.heap.size+1) _ rfl rfl _ _ (BRu) (by kernel_rfl) (by rfl) (by simp [Value.oneCell']) ?_; intro vz hLz hqz hKz))
  exact bodyPost_ret (res_cell_tmp rfl _ _ (w.heap.size+1) _ _ _ _ rfl hLz rfl Tryz.underlying76 rfl (by kernel_rfl)) rfl ⟨by rw [HT.out]; rfl,hbu.trans (hqz _ (by omega))⟩
end Sc
end
section
namespace Wr
open Go.RowKit Sy
set_option maxRecDepth 100000
set_option maxHeartbeats 4000000
def okSC (n:Nat):Bool:=decide (n%Sc.pM=n)
def encSC (n:Nat):Byt:=bytesS (n%Sc.pM)
def rdSC:Ps Nat:=bindP (takeP 32) λl=>bindP (mustP (Sc.readS l).2) λ_=>retP (Sc.readS l).1
def repSC (_:Rdr) (cs:List Value) (n:Nat):Prop:=cs=Cu.fws n∧n<Cu.K4
def nulAM (a:MAmt):Bool:=(!a.blind && decide (a.value=0)) && nulPT a.pt
structure MIs where
 kind:Int
 amount:MAmt
 range:Byt
 tokens:Nat
 entropy:Byt
 blind:Nat
def zAM:MAmt:=⟨false,0,⟨0,0,false⟩⟩
def zIS:MIs:=⟨0,zAM,[],0,z32,0⟩
def nulIS (i:MIs):Bool:=nulAM i.amount && (decide (i.range.length=0) && (decide (i.tokens=0) && (decide (i.entropy=z32) && decide (i.blind=0))))
def fulIS (i:MIs):Bool:=okAM i.amount && (decide (i.range.length≤6000) && okSC i.blind)
def okIS (i:MIs):Bool:=if i.kind=0 then nulIS i else if i.kind=1∨i.kind=2 then fulIS i else false
def bodyIS (i:MIs):Byt:=encAM i.amount++(encT i.range++(nb 8 i.tokens++(i.entropy++encSC i.blind)))
def encIS (i:MIs):Byt:=[octB i.kind]++(if i.kind=0 then [] else bodyIS i)
def wtIS (i:MIs):Nat:=1+(34+((9+i.range.length)+(8+(32+32))))
def fulRd (k:Int):Ps MIs:=bindP rdAM λa=>bindP (textP 6000) λr=>bindP (numP 8) λt=>bindP (takeP 32) λe=>bindP rdSC λs=>retP ⟨k,a,r,t,e,s⟩
def rdIS:Ps MIs:=bindP octP λk=>if k=0 then retP zIS else bindP (mustP (decide (k=1∨k=2))) λ_=>fulRd k
def cIS (i:MIs) (vr:Value):List Value:=[.int .i64 i.kind]++(cAM i.amount++([vr]++([.int .u64 (i.tokens:Int)]++(i.entropy.map bv++Cu.fws i.blind))))
def repIS (C:Rdr) (cs:List Value) (i:MIs):Prop:=∃ vr,cs=cIS i vr∧(i.amount.value<18446744073709551616∧i.amount.pt.x<Cu.K4∧i.amount.pt.y<Cu.K4)∧BytR C vr i.range∧i.tokens<18446744073709551616∧i.entropy.length=32∧i.blind<Cu.K4
theorem monoIS:Mono repIS:=λhl ⟨vr,h0,h1,h2,h3,h4,h5⟩=>⟨vr,h0,h1,h2.le hl,h3,h4,h5⟩
theorem fws_len (n:Nat):(Cu.fws n).length=4:=rfl
theorem fws_one (n:Nat):∀ u∈Cu.fws n,u.oneCell'=true:=λu hu=>by
 simp only [Cu.fws,List.mem_cons,List.not_mem_nil,or_false] at hu
 rcases hu with rfl | rfl | rfl | rfl <;> rfl
theorem lenIS {C:Rdr} {cs:List Value} {t:MIs} (h:repIS C cs t):cs.length=50:=by
 obtain ⟨vr,rfl,h1,h2,h3,h4,h5⟩:=h
 simp only [cIS,cAM,List.length_append,List.length_map,h4,fws_len,lPT_len]; rfl
theorem oneIS {C:Rdr} {cs:List Value} {t:MIs} (h:repIS C cs t):∀ u∈cs,u.oneCell'=true:=by
 obtain ⟨vr,rfl,h1,h2,h3,h4,h5⟩:=h
 exact ones_app (λu hu=>by rw [List.mem_singleton.1 hu]; rfl) (ones_app (ones_app (λu hu=>by rw [List.mem_singleton.1 hu]; rfl) (ones_app (λu hu=>by rw [List.mem_singleton.1 hu]; rfl) (lPT_one _))) (ones_app (λu hu=>by rw [List.mem_singleton.1 hu]; exact h2.cells.2) (ones_app (λu hu=>by rw [List.mem_singleton.1 hu]; rfl) (ones_app (ones_bW _) (fws_one _)))))
structure MPg where
 header:Byt
 tx:Byt
 place:Nat
 many:Nat
 path:List Byt
 script:Byt
def zPG:MPg:=⟨z32,[],0,0,[],[]⟩
def nulPG (p:MPg):Bool:=decide (p.header=z32) && (decide (p.tx.length=0) && (decide (p.place=0) && (decide (p.many=0) && (decide (p.path.length=0) && decide (p.script.length=0)))))
def okPG (p:MPg):Bool:=decide (p.tx.length≤1024) && (decide (p.path.length≤32) && decide (p.script.length≤256))
def encPG (p:MPg):Byt:=p.header++(encT p.tx++(nb 4 p.place++(nb 4 p.many++(encL (λd=>d) p.path++encT p.script))))
def wtPG (p:MPg):Nat:=32+((9+p.tx.length)+(4+(4+((9+(p.path.map λ_=>32).sum)+(9+p.script.length)))))
def rdPG:Ps MPg:=bindP (takeP 32) λh=>bindP (textP 1024) λt=>bindP (numP 4) λp=>bindP (numP 4) λm=>bindP (listP 32 (takeP 32)) λl=>bindP (textP 256) λs=>retP ⟨h,t,p,m,l,s⟩
def cPG (p:MPg) (vt vp vs:Value):List Value:=p.header.map bv++([vt]++([.int .u32 (p.place:Int)]++([.int .u32 (p.many:Int)]++([vp]++[vs]))))
def repPG (C:Rdr) (cs:List Value) (p:MPg):Prop:=∃ vt vp vs,cs=cPG p vt vp vs∧p.header.length=32∧BytR C vt p.tx∧p.place<4294967296∧p.many<4294967296∧LstR C 32 repDG vp p.path∧BytR C vs p.script
theorem monoPG:Mono repPG:=λhl ⟨vt,vp,vs,h0,h1,h2,h3,h4,h5,h6⟩=>⟨vt,vp,vs,h0,h1,h2.le hl,h3,h4,LstR.le (rep:=repDG) monoDG hl h5,h6.le hl⟩
theorem lenPG {C:Rdr} {cs:List Value} {t:MPg} (h:repPG C cs t):cs.length=37:=by
 obtain ⟨vt,vp,vs,rfl,h1,_⟩:=h
 simp only [cPG,List.length_append,List.length_map,h1]; rfl
theorem onePG {C:Rdr} {cs:List Value} {t:MPg} (h:repPG C cs t):∀ u∈cs,u.oneCell'=true:=by
 obtain ⟨vt,vp,vs,rfl,h1,h2,h3,h4,h5,h6⟩:=h
 exact ones_app (ones_bW _) (ones_app (λu hu=>by rw [List.mem_singleton.1 hu]; exact h2.cells.2) (ones_app (λu hu=>by rw [List.mem_singleton.1 hu]; rfl) (ones_app (λu hu=>by rw [List.mem_singleton.1 hu]; rfl) (ones_app (λu hu=>by rw [List.mem_singleton.1 hu]; exact h5.cells.2) (λu hu=>by rw [List.mem_singleton.1 hu]; exact h6.cells.2)))))
theorem monoTT:Mono repY:=λhl ⟨v,h0,h1⟩=>⟨v,h0,h1.le hl⟩
def ok256 (x:Byt):Bool:=decide (x.length≤256)
def wtT (x:Byt):Nat:=9+x.length
structure MIn where
 kind:Int
 prev:Byt
 index:Nat
 issue:MIs
 peg:MPg
 wit:List Byt
def okW (l:List Byt):Bool:=decide (l.length≤16) && l.all ok256
def okK2 (k:Int):Bool:=decide (1≤k) && decide (k≤2)
def okIN (i:MIn):Bool:=okK2 i.kind && (okIS i.issue && ((if i.kind=2 then okPG i.peg else nulPG i.peg) && okW i.wit))
def encIN (i:MIn):Byt:=[octB i.kind]++(i.prev++(nb 4 i.index++(encIS i.issue++((if i.kind=2 then encPG i.peg else [])++encL encT i.wit))))
def wtIN (i:MIn):Nat:=1+(36+(wtIS i.issue+(wtPG i.peg+(9+(i.wit.map wtT).sum))))
def rdIN:Ps MIn:=bindP octP λk=>bindP (mustP (okK2 k)) λ_=>bindP (takeP 32) λp=>bindP (numP 4) λx=>bindP rdIS λi=>bindP (if k=2 then rdPG else retP zPG) λg=>bindP (listP 16 (textP 256)) λw=>retP ⟨k,p,x,i,g,w⟩
def repIN (C:Rdr) (cs:List Value) (i:MIn):Prop:=∃ ci cg vw,cs=[.int .i64 i.kind]++((i.prev.map bv++[.int .u32 (i.index:Int)])++(ci++(cg++[vw])))∧i.prev.length=32∧i.index<4294967296∧repIS C ci i.issue∧repPG C cg i.peg∧LstR C 1 repY vw i.wit
theorem monoIN:Mono repIN:=λhl ⟨ci,cg,vw,h0,h1,h2,h3,h4,h5⟩=>⟨ci,cg,vw,h0,h1,h2,monoIS hl h3,monoPG hl h4,LstR.le (rep:=repY) monoTT hl h5⟩
theorem lenIN {C:Rdr} {cs:List Value} {t:MIn} (h:repIN C cs t):cs.length=122:=by
 obtain ⟨ci,cg,vw,rfl,h1,h2,h3,h4,h5⟩:=h
 simp only [List.length_append,List.length_map,h1,lenIS h3,lenPG h4]; rfl
theorem oneIN {C:Rdr} {cs:List Value} {t:MIn} (h:repIN C cs t):∀ u∈cs,u.oneCell'=true:=by
 obtain ⟨ci,cg,vw,rfl,h1,h2,h3,h4,h5⟩:=h
 exact ones_app (λu hu=>by rw [List.mem_singleton.1 hu]; rfl) (ones_app (ones_app (ones_bW _) (λu hu=>by rw [List.mem_singleton.1 hu]; rfl)) (ones_app (oneIS h3) (ones_app (onePG h4) (λu hu=>by rw [List.mem_singleton.1 hu]; exact h5.cells.2))))
structure MTr where
 after:Nat
 ins:List MIn
 outs:List MOu
def okTR (t:MTr):Bool:=(decide (t.ins.length≤16) && t.ins.all okIN) && (decide (t.outs.length≤16) && t.outs.all okOU)
def encTR (t:MTr):Byt:=nb 8 t.after++(encL encIN t.ins++encL encOU t.outs)
def wtTR (t:MTr):Nat:=8+((9+(t.ins.map wtIN).sum)+(9+(t.outs.map wtOU).sum))
def rdTR:Ps MTr:=bindP (numP 8) λa=>bindP (listP 16 rdIN) λi=>bindP (listP 16 rdOU) λo=>retP ⟨a,i,o⟩
def repTR (C:Rdr) (cs:List Value) (t:MTr):Prop:=∃ vi vo,cs=[.int .u64 (t.after:Int)]++([vi]++[vo])∧t.after<18446744073709551616∧LstR C 122 repIN vi t.ins∧LstR C 58 repOU vo t.outs
theorem monoTR:Mono repTR:=λhl ⟨vi,vo,h0,h1,h2,h3⟩=>⟨vi,vo,h0,h1,LstR.le (rep:=repIN) monoIN hl h2,LstR.le (rep:=repOU) monoOU hl h3⟩
theorem oneTR {C:Rdr} {cs:List Value} {t:MTr} (h:repTR C cs t):∀ u∈cs,u.oneCell'=true:=by
 obtain ⟨vi,vo,rfl,h1,h2,h3⟩:=h
 exact ones_app (λu hu=>by rw [List.mem_singleton.1 hu]; rfl) (ones_app (λu hu=>by rw [List.mem_singleton.1 hu]; exact h2.cells.2) (λu hu=>by rw [List.mem_singleton.1 hu]; exact h3.cells.2))
structure MSg where
 key:Int
 sig:Byt
def okSG (s:MSg):Bool:=okO s.key
def encSG (s:MSg):Byt:=[octB s.key]++s.sig
def rdSG:Ps MSg:=bindP octP λk=>bindP (takeP 64) λs=>retP ⟨k,s⟩
def repSG (_:Rdr) (cs:List Value) (s:MSg):Prop:=cs=[.int .i64 s.key]++s.sig.map bv∧s.sig.length=64
theorem monoSG:Mono repSG:=λ_ h=>h
structure MBl where
 header:MHe
 sigs:List MSg
 txs:List MTr
def okBL (b:MBl):Bool:=okHE b.header && ((decide (b.sigs.length≤16) && b.sigs.all okSG) && (decide (b.txs.length≤64) && b.txs.all okTR))
def encBL (b:MBl):Byt:=encHE b.header++(encL encSG b.sigs++encL encTR b.txs)
def wtBL (b:MBl):Nat:=wtHE b.header+((9+(b.sigs.map λ_=>65).sum)+(9+(b.txs.map wtTR).sum))
def rdBL:Ps MBl:=bindP rdHE λh=>bindP (listP 16 rdSG) λs=>bindP (listP 64 rdTR) λt=>retP ⟨h,s,t⟩
def repBL (C:Rdr) (cs:List Value) (b:MBl):Prop:=∃ ch vs vt,cs=ch++([vs]++[vt])∧repHE C ch b.header∧LstR C 65 repSG vs b.sigs∧LstR C 3 repTR vt b.txs
theorem monoBL:Mono repBL:=λhl ⟨ch,vs,vt,h0,h1,h2,h3⟩=>⟨ch,vs,vt,h0,monoHE hl h1,LstR.le (rep:=repSG) monoSG hl h2,LstR.le (rep:=repTR) monoTR hl h3⟩
theorem lenHE {C:Rdr} {cs:List Value} {t:MHe} (h:repHE C cs t):cs.length=102:=by
 obtain ⟨vr,vk,rfl,h1,h2,h3,_⟩:=h
 simp only [cHE,List.length_append,List.length_map,h1,h2,h3]; rfl
theorem lenBL {C:Rdr} {cs:List Value} {t:MBl} (h:repBL C cs t):cs.length=104:=by
 obtain ⟨ch,vs,vt,rfl,h1,_⟩:=h
 rw [List.length_append,lenHE h1]; rfl
theorem oneBL {C:Rdr} {cs:List Value} {t:MBl} (h:repBL C cs t):∀ u∈cs,u.oneCell'=true:=by
 obtain ⟨ch,vs,vt,rfl,h1,h2,h3⟩:=h
 exact ones_app (oneHE h1) (ones_app (λu hu=>by rw [List.mem_singleton.1 hu]; exact h2.cells.2) (λu hu=>by rw [List.mem_singleton.1 hu]; exact h3.cells.2))
theorem okK2_of {z:Int} (h:¬ (z=1∨z=2)):okK2 z=false:=by
 cases hb:okK2 z with
 | false=>rfl
 | true =>
  unfold okK2 at hb
  rw [Bool.and_eq_true,decide_eq_true_eq,decide_eq_true_eq] at hb
  exact (h (by omega)).elim
end Wr
end
section
namespace Wr
open Go.RowKit Sy
set_option maxRecDepth 100000
set_option maxHeartbeats 4000000
theorem digestC_w:PutC 130 32 repDG (λ_=>true) (λx=>x) (λ_=>32):=λw0 gc gw gx f bad s R b cs x hx _ hc hb hl w hw=>by
 obtain ⟨rfl,h1⟩:=hx
 exact digest_w w0 gc gw gx f bad s R b x h1 hc hb (by omega) w hw
noncomputable def inf_dgs:TypeInfo:=(Tryz.prog.info? 28).getD default
theorem info_dgs:Tryz.prog.info? 28=some inf_dgs:=by kernel_rfl
noncomputable def K_dgs:LK:=⟨28,79,296,237,297,346,348,379,378,408,180,216,217,218,219,259,288,130,32,32,Z32,inf_dgs⟩
theorem ok_dgs:K_dgs.Ok:={
 c_f0:=⟨_,_,Tryz.func180⟩,
 c_fL:=⟨_,_,Tryz.func216⟩,
 c_f1:=⟨_,_,Tryz.func217⟩,
 c_fP:=⟨_,_,Tryz.func218⟩,
 c_f2:=⟨_,_,Tryz.func219⟩,
 c_fI:=⟨_,_,Tryz.func259⟩,
 c_fJ:=⟨_,_,Tryz.func288⟩,
 ute:=⟨_,Tryz.underlying28,rfl⟩,
 uts:=Tryz.underlying79,
 ufw:=⟨_,Tryz.underlying297,rfl⟩,
 ufr:=⟨_,Tryz.underlying346,rfl⟩,
 inf:=info_dgs,
 zero:=⟨_,rfl,by kernel_rfl⟩,
 size:=rfl,
 byt:=rfl,
 zl:=by kernel_rfl,
 pos:=(by decide:0<32),
 top:=(by decide:32≤16777216),
 btop:=(by decide:32≤100000000),
 its:=by kernel_rfl,
 ifw:=by kernel_rfl,
 ifr:=by kernel_rfl,
 zts:=⟨(Tryz.prog.info? 79).getD default,by kernel_rfl,by kernel_rfl⟩,
 e_fe:=enters_of Tryz.func130 kR rfl,
 e_f2:=enters_of Tryz.func219 kR rfl,
 e_fP:=enters_of Tryz.func218 kR rfl,
 e_f1:=enters_of Tryz.func217 kR rfl,
 e_fL:=enters_of Tryz.func216 kR rfl,
 e_fI:=enters_of Tryz.func259 kR rfl,
 e_fJ:=enters_of Tryz.func288 kR rfl }
theorem list_w_dgs {α:Type} {rep:Rdr→List Value→α→Prop} {ok:α→Bool} {enc:α→Byt} {wt:α→Nat} (hm:Mono rep) (hp:PutC 130 32 rep ok enc wt) (w0:Base) (gc gw gx f most:Nat) (hmo:most<1000000) (bad:Bool) (s:Slc) (R:Blocks) (b:Byt) (v:Value) (l:List α) (hv:LstR (rdC w0 R) 32 rep v l) (hc:rdC w0 R gx f v) (hb:BS s b) (hlen:b.length+(9+(l.map wt).sum)≤70368744170000) (w:World) (hw:St w0 w (CWS gc gw bad s R)) :
  Calls Tryz.prog 180 #[ptr gc,.pointer (some ⟨gx,f,none⟩),.int .i64 (most:Int),.func (.func 130) #[] #[]] w (Turns w0 (WrC gc gw R (decide (l.length≤most) && l.all ok) (varB l.length++l.flatMap enc) (9+(l.map wt).sum) bad b)):=list_wG (rep:=rep) (ok:=ok) (enc:=enc) (wt:=wt) ok_dgs hm hp.own w0 gc gw gx f most hmo bad s R b v l hv hc hb hlen w hw
theorem list_r_dgs {α:Type} {rep:Rdr→List Value→α→Prop} {p:Ps α} (hm:Mono rep) (hp:GetC 130 32 (Z32) rep p) (w0:Base) (gc gr gx f most:Nat) (hmost:most<1000000) (tx:TypeId) (A Z:List Value) (sl:Value) (s:RS) (R S:Blocks) (hS:∀ b∈S,b∈R) (hA:A.length=f) (he:s.e≤200) (hl:s.rest.length≤70368744177664) (hv:BytR (rdC w0 S) sl s.rest) (w:World) (hw:St w0 w (CRS gc gr gx tx (A++([Value.slice none 0 0]++Z)) sl s.e R)) :
  Calls Tryz.prog 180 #[ptr gc,.pointer (some ⟨gx,f,none⟩),.int .i64 (most:Int),.func (.func 130) #[] #[]] w (Turns w0 (RdT 1 (repL 32 rep) (listP most p) w0 gc gr gx tx A Z s R S)):=list_rG (rep:=rep) (p:=p) ok_dgs hm hp w0 gc gr gx f most hmost tx A Z sl s R S hS hA he hl hv w hw
end Wr
end
section
namespace Wr
open Go.RowKit Sy
set_option maxRecDepth 100000
set_option maxHeartbeats 4000000
def repOP (_:Rdr) (cs:List Value) (x:Byt×Nat):Prop:=cs=x.1.map bv++[.int .u32 (x.2:Int)]∧x.1.length=32∧x.2<4294967296
def encOP (x:Byt×Nat):Byt:=x.1++nb 4 x.2
def rdOP:Ps (Byt×Nat):=bindP (takeP 32) λp=>bindP (numP 4) λn=>retP (p,n)
theorem outpoint_w:PutC 114 33 repOP (λ_=>true) encOP (λ_=>36):=λw0 gc gw gx f bad s R b cs x hx _ hc hb hl w hw=>by
 obtain ⟨rfl,h1,h2⟩:=hx
 have e1:(x.1.map bv).length=32:=by rw [List.length_map,h1]
 have c0:XAt (rdC w0 R) gx f (x.1.map bv++[.int .u32 (x.2:Int)]):=hc
 have c1:XAt (rdC w0 R) gx (f+32) [.int .u32 (x.2:Int)]:=c0.right e1
 dsimp only at hl
 refine Sy.enterT (args:=[ptr gc,.pointer (some ⟨gx,f,none⟩)]) hw Tryz.func114 rfl kL ?_
 refine sC ?_
 refine sp rfl<|sp rfl<|sp rfl<|sP (.pointer (some ⟨gx,f,none⟩)) ?_
 refine Sy.callT (λw hw=>digest_w w0.inn gc gw gx f bad s R b x.1 h1 c0.left hb (by omega) w hw) (λu M hM=>?_)
 obtain ⟨s1,bad1,b1,q1,p1,rfl⟩:=hM
 have l1:b1.length≤b.length+32:=q1.len
 refine Sy.nil<|Sy.then_<|Sy.region ?_
 refine sp rfl<|sp rfl<|sp rfl<|sP (.pointer (some ⟨gx,f+32,none⟩)) ?_
 refine Sy.callT (λw hw=>word_w w0.inn gc gw gx (f+32) bad1 s1 R b1 x.2 h2 c1.one p1 (by omega) w hw) (λu M hM=>?_)
 obtain ⟨s2,bad2,b2,q2,p2,rfl⟩:=hM
 have l2:b2.length≤b1.length+4:=q2.len
 refine Sy.nil ?_
 have q:=q1.then_ q2
 simp only [Bool.true_and] at q
 exact Sy.retT0 rfl (CWS gc gw bad2 s2 R) (λ_ h=>h) (λ_=>⟨s2,bad2,b2,q,p2,rfl⟩)
theorem outpoint_r:GetC 114 33 (Z32++([Value.int .u32 0])) repOP rdOP:=λw0 gc gr gx f tx A Z sl s R S hS hA he hl hv w hw=>by
 refine Sy.enterT (args:=[ptr gc,.pointer (some ⟨gx,f,none⟩)]) hw Tryz.func114 rfl kL ?_
 refine sC ?_
 refine sp rfl<|sp rfl<|sp rfl<|sP (.pointer (some ⟨gx,f,none⟩)) ?_
 refine Sy.callT (λw hw=>digest_r w0.inn gc gr gx f tx (A) ([Value.int .u32 0]++Z) sl s (R) S hS hA he (hl) hv w (by simpa only [List.append_assoc] using hw)) (λu M hM=>?_)
 obtain ⟨x1,s1,sl1,cs1,N1,a1,n1,o1,⟨rfl,r1⟩,e1,h1,y1,rfl⟩:=hM
 have g1:s1.rest.length≤s.rest.length:=h1
 have A1:(A++(x1.map bv)).length=f+32:=by rw [List.length_append,hA,n1]
 refine Sy.nil<|Sy.then_<|Sy.region ?_
 refine sp rfl<|sp rfl<|sp rfl<|sP (.pointer (some ⟨gx,f+32,none⟩)) ?_
 refine Sy.callT (λw hw=>word_r w0.inn gc gr gx (f+32) tx (A++(x1.map bv)) (Z) sl1 s1 (R++N1) S (λb h=>List.mem_append_left _ (hS b h)) A1 e1 (Nat.le_trans g1 hl) y1 w (by have e:A++(x1.map bv)++([Value.int .u32 0]++(Z))=A++(x1.map bv++([Value.int .u32 0]++(Z))):=List.append_assoc ..; rw [e]; exact hw)) (λu M hM=>?_)
 obtain ⟨x2,s2,sl2,cs2,N2,a2,n2,o2,⟨rfl,r2⟩,e2,h2,y2,rfl⟩:=hM
 have g2:s2.rest.length≤s.rest.length:=Nat.le_trans h2 g1
 have A2:(A++(x1.map bv)++[Value.int .u32 (x2:Int)]).length=f+33:=by rw [List.length_append,A1,n2]
 refine Sy.nil ?_
 have hAf:After rdOP s (x1,x2) s2:=a1.bind (a2.bind (After.ret _ _))
 have hLn:(x1.map bv++([Value.int .u32 (x2:Int)])).length=33:=by simp only [List.length_append,n1]; rfl
 have hOn:∀ u∈(x1.map bv++([Value.int .u32 (x2:Int)])),u.oneCell'=true:=ones_app o1 (o2)
 have hRp:repOP (rdB (N1++(N2))) (x1.map bv++([Value.int .u32 (x2:Int)])) (x1,x2):=⟨rfl,r1,r2⟩
 exact Sy.retT0 rfl (CRS gc gr gx tx (A++((x1.map bv++([Value.int .u32 (x2:Int)]))++Z)) sl2 s2.e (R++(N1++(N2)))) (λ_ h=>by simpa only [List.append_assoc,List.cons_append,List.nil_append] using h) (λ_=>⟨_,s2,sl2,_,_,hAf,hLn,hOn,hRp,e2,g2,y2,rfl⟩)
theorem peg_w:PutC 117 37 repPG okPG encPG wtPG:=λw0 gc gw gx f bad s R b cs x hx _ hc hb hl w hw=>by
 obtain ⟨hd,tx,pl,mn,pa,sc⟩:=x
 obtain ⟨vt,vp,vs,rfl,h1,h2,h3,h4,h5,h6⟩:=hx
 dsimp only at h1 h2 h3 h4 h5 h6
 unfold wtPG at hl
 dsimp only at hl
 have e1:(hd.map bv).length=32:=by rw [List.length_map,h1]
 have c0:XAt (rdC w0 R) gx f (hd.map bv++([vt]++([.int .u32 (pl:Int)]++([.int .u32 (mn:Int)]++([vp]++[vs]))))):=hc
 have c1:XAt (rdC w0 R) gx (f+32) ([vt]++([.int .u32 (pl:Int)]++([.int .u32 (mn:Int)]++([vp]++[vs])))):=c0.right e1
 have c2:XAt (rdC w0 R) gx (f+33) ([.int .u32 (pl:Int)]++([.int .u32 (mn:Int)]++([vp]++[vs]))):=c1.right (n:=1) rfl
 have c3:XAt (rdC w0 R) gx (f+34) ([.int .u32 (mn:Int)]++([vp]++[vs])):=c2.right (n:=1) rfl
 have c4:XAt (rdC w0 R) gx (f+35) ([vp]++[vs]):=c3.right (n:=1) rfl
 have c5:XAt (rdC w0 R) gx (f+36) [vs]:=c4.right (n:=1) rfl
 refine Sy.enterT (args:=[ptr gc,.pointer (some ⟨gx,f,none⟩)]) hw Tryz.func117 rfl kL ?_
 refine sC ?_
 refine sp rfl<|sp rfl<|sp rfl<|sP (.pointer (some ⟨gx,f,none⟩)) ?_
 refine Sy.callT (λw hw=>digest_w w0.inn gc gw gx f bad s R b hd h1 c0.left hb (by omega) w hw) (λu M hM=>?_)
 obtain ⟨s1,bad1,b1,q1,p1,rfl⟩:=hM
 have l1:b1.length≤b.length+32:=q1.len
 refine sA ?_
 refine sp rfl<|sp rfl<|sp rfl<|sP (.pointer (some ⟨gx,f+32,none⟩)) ?_
 refine Sy.callT (λw hw=>text_w w0.inn gc gw gx (f+32) bad1 s1 R b1 tx vt 1024 (by decide) h2 c1.one p1 (by omega) w hw) (λu M hM=>?_)
 obtain ⟨s2,bad2,b2,q2,p2,rfl⟩:=hM
 have l2:b2.length≤b1.length+(9+tx.length):=q2.len
 refine sA ?_
 refine sp rfl<|sp rfl<|sp rfl<|sP (.pointer (some ⟨gx,f+33,none⟩)) ?_
 refine Sy.callT (λw hw=>word_w w0.inn gc gw gx (f+33) bad2 s2 R b2 pl h3 c2.one p2 (by omega) w hw) (λu M hM=>?_)
 obtain ⟨s3,bad3,b3,q3,p3,rfl⟩:=hM
 have l3:b3.length≤b2.length+4:=q3.len
 refine sA ?_
 refine sp rfl<|sp rfl<|sp rfl<|sP (.pointer (some ⟨gx,f+34,none⟩)) ?_
 refine Sy.callT (λw hw=>word_w w0.inn gc gw gx (f+34) bad3 s3 R b3 mn h4 c3.one p3 (by omega) w hw) (λu M hM=>?_)
 obtain ⟨s4,bad4,b4,q4,p4,rfl⟩:=hM
 have l4:b4.length≤b3.length+4:=q4.len
 refine sA ?_
 refine sp rfl<|sp rfl<|sp rfl<|sP (.pointer (some ⟨gx,f+35,none⟩)) ?_
 refine Sy.callT (λw hw=>list_w_dgs (rep:=repDG) monoDG digestC_w w0.inn gc gw gx (f+35) 32 (by decide) bad4 s4 R b4 vp pa h5 c4.one p4 (by omega) w hw) (λu M hM=>?_)
 obtain ⟨s5,bad5,b5,q5,p5,rfl⟩:=hM
 have l5:b5.length≤b4.length+(9+(pa.map λ_=>32).sum):=q5.len
 refine Sy.nil<|Sy.then_<|Sy.region ?_
 refine sp rfl<|sp rfl<|sp rfl<|sP (.pointer (some ⟨gx,f+36,none⟩)) ?_
 refine Sy.callT (λw hw=>text_w w0.inn gc gw gx (f+36) bad5 s5 R b5 sc vs 256 (by decide) h6 c5.one p5 (by omega) w hw) (λu M hM=>?_)
 obtain ⟨s6,bad6,b6,q6,p6,rfl⟩:=hM
 have l6:b6.length≤b5.length+(9+sc.length):=q6.len
 refine Sy.nil ?_
 have q:=q1.then_ (q2.then_ (q3.then_ (q4.then_ (q5.then_ q6))))
 simp only [Bool.true_and,all_true,Bool.and_true] at q
 exact Sy.retT0 rfl (CWS gc gw bad6 s6 R) (λ_ h=>h) (λ_=>⟨s6,bad6,b6,q,p6,rfl⟩)
theorem peg_r:GetC 117 37 (Z32++([Value.slice none 0 0]++([Value.int .u32 0]++([Value.int .u32 0]++([Value.slice none 0 0]++([Value.slice none 0 0])))))) repPG rdPG:=λw0 gc gr gx f tx A Z sl s R S hS hA he hl hv w hw=>by
 refine Sy.enterT (args:=[ptr gc,.pointer (some ⟨gx,f,none⟩)]) hw Tryz.func117 rfl kL ?_
 refine sC ?_
 refine sp rfl<|sp rfl<|sp rfl<|sP (.pointer (some ⟨gx,f,none⟩)) ?_
 refine Sy.callT (λw hw=>digest_r w0.inn gc gr gx f tx (A) ([Value.slice none 0 0]++([Value.int .u32 0]++([Value.int .u32 0]++([Value.slice none 0 0]++([Value.slice none 0 0]++Z))))) sl s (R) S hS hA he (hl) hv w (by simpa only [List.append_assoc] using hw)) (λu M hM=>?_)
 obtain ⟨x1,s1,sl1,cs1,N1,a1,n1,o1,⟨rfl,r1⟩,e1,h1,y1,rfl⟩:=hM
 have g1:s1.rest.length≤s.rest.length:=h1
 have A1:(A++(x1.map bv)).length=f+32:=by rw [List.length_append,hA,n1]
 refine sA ?_
 refine sp rfl<|sp rfl<|sp rfl<|sP (.pointer (some ⟨gx,f+32,none⟩)) ?_
 refine Sy.callT (λw hw=>text_r 1024 (by decide) w0.inn gc gr gx (f+32) tx (A++(x1.map bv)) ([Value.int .u32 0]++([Value.int .u32 0]++([Value.slice none 0 0]++([Value.slice none 0 0]++Z)))) sl1 s1 (R++N1) S (λb h=>List.mem_append_left _ (hS b h)) A1 e1 (Nat.le_trans g1 hl) y1 w (by have e:A++(x1.map bv)++([Value.slice none 0 0]++([Value.int .u32 0]++([Value.int .u32 0]++([Value.slice none 0 0]++([Value.slice none 0 0]++Z)))))=A++(x1.map bv++([Value.slice none 0 0]++([Value.int .u32 0]++([Value.int .u32 0]++([Value.slice none 0 0]++([Value.slice none 0 0]++Z)))))):=List.append_assoc ..; rw [e]; exact hw)) (λu M hM=>?_)
 obtain ⟨x2,s2,sl2,cs2,N2,a2,n2,o2,⟨v2,rfl,r2⟩,e2,h2,y2,rfl⟩:=hM
 have g2:s2.rest.length≤s.rest.length:=Nat.le_trans h2 g1
 have A2:(A++(x1.map bv)++[v2]).length=f+33:=by rw [List.length_append,A1,n2]
 refine sA ?_
 refine sp rfl<|sp rfl<|sp rfl<|sP (.pointer (some ⟨gx,f+33,none⟩)) ?_
 refine Sy.callT (λw hw=>word_r w0.inn gc gr gx (f+33) tx (A++(x1.map bv)++[v2]) ([Value.int .u32 0]++([Value.slice none 0 0]++([Value.slice none 0 0]++Z))) sl2 s2 (R++N1++N2) S (λb h=>List.mem_append_left _ (List.mem_append_left _ (hS b h))) A2 e2 (Nat.le_trans g2 hl) y2 w (by have e:A++(x1.map bv)++[v2]++([Value.int .u32 0]++([Value.int .u32 0]++([Value.slice none 0 0]++([Value.slice none 0 0]++Z))))=A++(x1.map bv)++([v2]++([Value.int .u32 0]++([Value.int .u32 0]++([Value.slice none 0 0]++([Value.slice none 0 0]++Z))))):=List.append_assoc ..; rw [e]; exact hw)) (λu M hM=>?_)
 obtain ⟨x3,s3,sl3,cs3,N3,a3,n3,o3,⟨rfl,r3⟩,e3,h3,y3,rfl⟩:=hM
 have g3:s3.rest.length≤s.rest.length:=Nat.le_trans h3 g2
 have A3:(A++(x1.map bv)++[v2]++[Value.int .u32 (x3:Int)]).length=f+34:=by rw [List.length_append,A2,n3]
 refine sA ?_
 refine sp rfl<|sp rfl<|sp rfl<|sP (.pointer (some ⟨gx,f+34,none⟩)) ?_
 refine Sy.callT (λw hw=>word_r w0.inn gc gr gx (f+34) tx (A++(x1.map bv)++[v2]++[Value.int .u32 (x3:Int)]) ([Value.slice none 0 0]++([Value.slice none 0 0]++Z)) sl3 s3 (R++N1++N2++N3) S (λb h=>List.mem_append_left _ (List.mem_append_left _ (List.mem_append_left _ (hS b h)))) A3 e3 (Nat.le_trans g3 hl) y3 w (by have e:A++(x1.map bv)++[v2]++[Value.int .u32 (x3:Int)]++([Value.int .u32 0]++([Value.slice none 0 0]++([Value.slice none 0 0]++Z)))=A++(x1.map bv)++[v2]++([Value.int .u32 (x3:Int)]++([Value.int .u32 0]++([Value.slice none 0 0]++([Value.slice none 0 0]++Z)))):=List.append_assoc ..; rw [e]; exact hw)) (λu M hM=>?_)
 obtain ⟨x4,s4,sl4,cs4,N4,a4,n4,o4,⟨rfl,r4⟩,e4,h4,y4,rfl⟩:=hM
 have g4:s4.rest.length≤s.rest.length:=Nat.le_trans h4 g3
 have A4:(A++(x1.map bv)++[v2]++[Value.int .u32 (x3:Int)]++[Value.int .u32 (x4:Int)]).length=f+35:=by rw [List.length_append,A3,n4]
 refine sA ?_
 refine sp rfl<|sp rfl<|sp rfl<|sP (.pointer (some ⟨gx,f+35,none⟩)) ?_
 refine Sy.callT (λw hw=>list_r_dgs (rep:=repDG) (p:=takeP 32) monoDG digest_r w0.inn gc gr gx (f+35) 32 (by decide) tx (A++(x1.map bv)++[v2]++[Value.int .u32 (x3:Int)]++[Value.int .u32 (x4:Int)]) ([Value.slice none 0 0]++Z) sl4 s4 (R++N1++N2++N3++N4) S (λb h=>List.mem_append_left _ (List.mem_append_left _ (List.mem_append_left _ (List.mem_append_left _ (hS b h))))) A4 e4 (Nat.le_trans g4 hl) y4 w (by have e:A++(x1.map bv)++[v2]++[Value.int .u32 (x3:Int)]++[Value.int .u32 (x4:Int)]++([Value.slice none 0 0]++([Value.slice none 0 0]++Z))=A++(x1.map bv)++[v2]++[Value.int .u32 (x3:Int)]++([Value.int .u32 (x4:Int)]++([Value.slice none 0 0]++([Value.slice none 0 0]++Z))):=List.append_assoc ..; rw [e]; exact hw)) (λu M hM=>?_)
 obtain ⟨x5,s5,sl5,cs5,N5,a5,n5,o5,⟨v5,rfl,r5⟩,e5,h5,y5,rfl⟩:=hM
 have g5:s5.rest.length≤s.rest.length:=Nat.le_trans h5 g4
 have A5:(A++(x1.map bv)++[v2]++[Value.int .u32 (x3:Int)]++[Value.int .u32 (x4:Int)]++[v5]).length=f+36:=by rw [List.length_append,A4,n5]
 refine Sy.nil<|Sy.then_<|Sy.region ?_
 refine sp rfl<|sp rfl<|sp rfl<|sP (.pointer (some ⟨gx,f+36,none⟩)) ?_
 refine Sy.callT (λw hw=>text_r 256 (by decide) w0.inn gc gr gx (f+36) tx (A++(x1.map bv)++[v2]++[Value.int .u32 (x3:Int)]++[Value.int .u32 (x4:Int)]++[v5]) (Z) sl5 s5 (R++N1++N2++N3++N4++N5) S (λb h=>List.mem_append_left _ (List.mem_append_left _ (List.mem_append_left _ (List.mem_append_left _ (List.mem_append_left _ (hS b h)))))) A5 e5 (Nat.le_trans g5 hl) y5 w (by have e:A++(x1.map bv)++[v2]++[Value.int .u32 (x3:Int)]++[Value.int .u32 (x4:Int)]++[v5]++([Value.slice none 0 0]++(Z))=A++(x1.map bv)++[v2]++[Value.int .u32 (x3:Int)]++[Value.int .u32 (x4:Int)]++([v5]++([Value.slice none 0 0]++(Z))):=List.append_assoc ..; rw [e]; exact hw)) (λu M hM=>?_)
 obtain ⟨x6,s6,sl6,cs6,N6,a6,n6,o6,⟨v6,rfl,r6⟩,e6,h6,y6,rfl⟩:=hM
 have g6:s6.rest.length≤s.rest.length:=Nat.le_trans h6 g5
 have A6:(A++(x1.map bv)++[v2]++[Value.int .u32 (x3:Int)]++[Value.int .u32 (x4:Int)]++[v5]++[v6]).length=f+37:=by rw [List.length_append,A5,n6]
 refine Sy.nil ?_
 have hAf:After rdPG s ⟨x1,x2,x3,x4,x5,x6⟩ s6:=a1.bind (a2.bind (a3.bind (a4.bind (a5.bind (a6.bind (After.ret _ _))))))
 have hLn:(x1.map bv++([v2]++([Value.int .u32 (x3:Int)]++([Value.int .u32 (x4:Int)]++([v5]++([v6])))))).length=37:=by simp only [List.length_append,n1]; rfl
 have hOn:∀ u∈(x1.map bv++([v2]++([Value.int .u32 (x3:Int)]++([Value.int .u32 (x4:Int)]++([v5]++([v6])))))),u.oneCell'=true:=ones_app o1 (ones_app o2 (ones_app o3 (ones_app o4 (ones_app o5 (o6)))))
 have hRp:repPG (rdB (N1++(N2++(N3++(N4++(N5++(N6))))))) (x1.map bv++([v2]++([Value.int .u32 (x3:Int)]++([Value.int .u32 (x4:Int)]++([v5]++([v6])))))) ⟨x1,x2,x3,x4,x5,x6⟩:=⟨v2,v5,v6,rfl,r1,r2.le (rdB_le λb h=>by simp [h]),r3,r4,LstR.le (rep:=repDG) monoDG (rdB_le λb h=>by simp [h]) r5,r6.le (rdB_le λb h=>by simp [h])⟩
 exact Sy.retT0 rfl (CRS gc gr gx tx (A++((x1.map bv++([v2]++([Value.int .u32 (x3:Int)]++([Value.int .u32 (x4:Int)]++([v5]++([v6]))))))++Z)) sl6 s6.e (R++(N1++(N2++(N3++(N4++(N5++(N6)))))))) (λ_ h=>by simpa only [List.append_assoc,List.cons_append,List.nil_append] using h) (λ_=>⟨_,s6,sl6,_,_,hAf,hLn,hOn,hRp,e6,g6,y6,rfl⟩)
end Wr
end
end Go.Proofs.YtgggdbjakcpanaaGreatDoor
