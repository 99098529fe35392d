/-
  Texts of ours, put together: WirDD, WirDE, WirCD, WirDF, WirDG, WirEA, WirEB, WirP, WirQ, WirR, WirS, WirT, WirU, WirV, WirW, WirBC, WirBD, WirCE, WirCF, CrvY, RefNumber, SymX, CrvE, CrvZ, WirDH, WirDI, WirEC, WirDJ, WirCG, WirDK, WirDL, WirED, WirFA, ScSpec.
-/
import Derived.Test.YtdbcombmmnihbaaGreatWN4
set_option linter.unusedVariables false
set_option linter.unusedSimpArgs false
namespace Go.Proofs.YtdbcombmmnihbaaGreat
section
namespace Wr
open Go.RowKit Sy
set_option maxRecDepth 100000
set_option maxHeartbeats 4000000
theorem mid_fit {A v Z:List Value} {f k:Nat} (hA:A.length=f) (hv:v.length=k):f+k≤(A++(v++Z)).length:=by rw [List.length_append,List.length_append,hA,hv]; omega
theorem tag_r:GetC 92 42 ([Value.bool false]++(Z32++lPT ⟨0,0,false⟩)) repTG rdTG:=λw0 gc gr gx f tx A Z sl s R S hS hA he hl hv w hw=>by
 refine Sy.enterT (args:=[ptr gc,.pointer (some ⟨gx,f,none⟩)]) hw Tryz.func92 rfl kL ?_
 refine sC ?_
 refine sp rfl<|sp rfl<|sp rfl<|sP (.pointer (some ⟨gx,f,none⟩)) ?_
 refine Sy.callT (λw hw=>truth_r w0.inn gc gr gx f tx A (Z32++(lPT ⟨0,0,false⟩++Z)) sl s R S hS hA he hl hv w (by simpa only [List.append_assoc] using hw)) (λu M hM=>?_)
 obtain ⟨x1,s1,sl1,cs1,N1,a1,n1,o1,rfl,e1,h1,y1,rfl⟩:=hM
 have hS1:∀ b∈S,b∈R++N1:=λb h=>List.mem_append_left _ (hS b h)
 refine sA ?_
 refine sp rfl<|sp rfl<|sP (.pointer (some ⟨gx,f,none⟩))<|sS (.bool x1) (Quiet.cell 1 gx f tx 4 (A++([Value.bool x1]++(Z32++(lPT ⟨0,0,false⟩++Z)))).toArray _ _ rfl kR rfl Tryz.underlying4 rfl _ (by rw [List.getElem?_toArray,List.getElem?_append_right (by omega),hA,Nat.sub_self]; rfl)) ?_
 refine sG ?_
 cases x1
 case' true =>
  have A1:(A++[Value.bool true]).length=f+1:=by rw [List.length_append,hA]; rfl
  have A2:(A++[Value.bool true]++Z32).length=f+33:=by rw [List.length_append,A1,Z32_len]
  refine sT<|sC ?_
  refine sp rfl<|sp rfl<|sp rfl<|sP (.pointer (some ⟨gx,f+33,none⟩)) ?_
  refine Sy.callT (λw hw=>point_r w0.inn gc gr gx (f+33) tx (A++[Value.bool true]++Z32) Z sl1 s1 (R++N1) S hS1 A2 e1 (Nat.le_trans h1 hl) y1 w (by simpa only [List.append_assoc] using hw)) (λu M hM=>?_)
  obtain ⟨m,s2,sl2,cs2,N2,a2,n2,o2,⟨rfl,b1,b2⟩,e2,h2,y2,rfl⟩:=hM
  refine Sy.permS (M:=CRS gc gr gx tx ((A++[Value.bool true])++(Z32++(lPT m++Z))) sl2 s2.e (R++N1++N2)) (List.Perm.of_eq (by rw [List.append_assoc (A++[Value.bool true])])) ?_
  refine Sy.nil<|Sy.then_<|Sy.region ?_
  refine sp rfl<|sp rfl<|sp rfl<|sP (.pointer (some ⟨gx,f+1,none⟩))<|sS (.agg (z32.map bv).toArray) (Quiet.mid 1 gx (f+1) 32 tx 37 ((A++[Value.bool true])++(Z32++(lPT m++Z))) Z32 _ _ rfl kR rfl Tryz.underlying37 rfl kR (mid_cells A1 Z32_len) (mid_fit A1 Z32_len))<|sP (.agg (z32.map bv).toArray)<|sS (.bool true) (Quiet.pure (λw=>(eql_dgs w _ _ _ _ z32 z32 rfl rfl rfl rfl rfl).trans (by rw [decide_eq_true rfl]))) ?_
  have p5:(CRS gc gr gx tx ((A++[Value.bool true])++(Z32++(lPT m++Z))) sl2 s2.e (R++N1++N2)).Perm (CRN gc gr sl2 s2.e ((gx,tx,((A++[Value.bool true])++(Z32++(lPT m++Z))).toArray)::(R++N1++N2))):=swap23
  refine Sy.permS p5 ?_
  refine Sy.callT (λw hw=>must_r w0.inn gc gr sl2 s2.e e2 ((gx,tx,((A++[Value.bool true])++(Z32++(lPT m++Z))).toArray)::(R++N1++N2)) true w hw) (λu M hM=>?_)
  subst hM
  rw [if_pos rfl]
  refine Sy.permS p5.symm ?_
  refine Sy.nil ?_
  have hAf:After rdTG s ⟨true,z32,m⟩ s2:=a1.bind (by rw [if_pos rfl]; exact a2.bind (After.ret _ _))
  have hLn:([Value.bool true]++(Z32++lPT m)).length=42:=rfl
  have hOn:∀ u∈([Value.bool true]++(Z32++lPT m)),u.oneCell'=true:=ones_app o1 (ones_app (ones_bW z32) o2)
  exact Sy.retT0 rfl (CRS gc gr gx tx (A++(([Value.bool true]++(Z32++lPT m))++Z)) sl2 s2.e (R++(N1++N2))) (λ_ h=>by simpa only [List.append_assoc,List.cons_append,List.nil_append] using h) (λ_=>⟨_,s2,sl2,_,N1++N2,hAf,hLn,hOn,⟨rfl,rfl,b1,b2⟩,e2,Nat.le_trans h2 h1,y2,rfl⟩)
 have A1:(A++[Value.bool false]).length=f+1:=by rw [List.length_append,hA]; rfl
 refine sU<|sC ?_
 refine sp rfl<|sp rfl<|sp rfl<|sP (.pointer (some ⟨gx,f+1,none⟩)) ?_
 refine Sy.callT (λw hw=>digest_r w0.inn gc gr gx (f+1) tx (A++[Value.bool false]) (lPT ⟨0,0,false⟩++Z) sl1 s1 (R++N1) S hS1 A1 e1 (Nat.le_trans h1 hl) y1 w (by simpa only [List.append_assoc] using hw)) (λu M hM=>?_)
 obtain ⟨m,s2,sl2,cs2,N2,a2,n2,o2,⟨rfl,b1⟩,e2,h2,y2,rfl⟩:=hM
 have A2:(A++[Value.bool false]++m.map bv).length=f+33:=by rw [List.length_append,A1,n2]
 refine Sy.permS (M:=CRS gc gr gx tx ((A++[Value.bool false]++m.map bv)++(lPT ⟨0,0,false⟩++Z)) sl2 s2.e (R++N1++N2)) (List.Perm.of_eq (by rw [List.append_assoc (A++[Value.bool false])])) ?_
 refine Sy.nil<|Sy.then_<|Sy.region ?_
 refine sp rfl<|sp rfl<|sp rfl<|sP (.pointer (some ⟨gx,f+33,none⟩))<|sS (Cu.pv 0 0 false) (Quiet.mid 1 gx (f+33) 9 tx 57 ((A++[Value.bool false]++m.map bv)++(lPT ⟨0,0,false⟩++Z)) (lPT ⟨0,0,false⟩) _ _ rfl kR rfl Tryz.underlying57 rfl kR (mid_cells A2 rfl) (mid_fit A2 rfl))<|sP (Cu.pv 0 0 false)<|sS (.bool true) (Quiet.pure (λw=>Cu.eql_pt w _ _ _ _ 0 0 false 0 0 false rfl rfl rfl (by decide) (by decide) (by decide) (by decide))) ?_
 have p5:(CRS gc gr gx tx ((A++[Value.bool false]++m.map bv)++(lPT ⟨0,0,false⟩++Z)) sl2 s2.e (R++N1++N2)).Perm (CRN gc gr sl2 s2.e ((gx,tx,((A++[Value.bool false]++m.map bv)++(lPT ⟨0,0,false⟩++Z)).toArray)::(R++N1++N2))):=swap23
 refine Sy.permS p5 ?_
 refine Sy.callT (λw hw=>must_r w0.inn gc gr sl2 s2.e e2 ((gx,tx,((A++[Value.bool false]++m.map bv)++(lPT ⟨0,0,false⟩++Z)).toArray)::(R++N1++N2)) true w hw) (λu M hM=>?_)
 subst hM
 rw [if_pos rfl]
 refine Sy.permS p5.symm ?_
 refine Sy.nil ?_
 ·have hAf:After rdTG s ⟨false,m,⟨0,0,false⟩⟩ s2:=a1.bind (by rw [if_neg (by decide)]; exact a2.bind (After.ret _ _))
  have hLn:([Value.bool false]++(m.map bv++lPT ⟨0,0,false⟩)).length=42:=by rw [List.length_append,List.length_append,n2]; rfl
  have hOn:∀ u∈([Value.bool false]++(m.map bv++lPT ⟨0,0,false⟩)),u.oneCell'=true:=ones_app o1 (ones_app o2 (lPT_one _))
  exact Sy.retT0 rfl (CRS gc gr gx tx (A++(([Value.bool false]++(m.map bv++lPT ⟨0,0,false⟩))++Z)) sl2 s2.e (R++(N1++N2))) (λ_ h=>by simpa only [List.append_assoc,List.cons_append,List.nil_append] using h) (λ_=>⟨_,s2,sl2,_,N1++N2,hAf,hLn,hOn,⟨rfl,b1,(show 0<Cu.K4 by decide),(show 0<Cu.K4 by decide)⟩,e2,Nat.le_trans h2 h1,y2,rfl⟩)
theorem amount_r:GetC 93 11 ([Value.bool false]++([Value.int .u64 0]++lPT ⟨0,0,false⟩)) repAM rdAM:=λw0 gc gr gx f tx A Z sl s R S hS hA he hl hv w hw=>by
 refine Sy.enterT (args:=[ptr gc,.pointer (some ⟨gx,f,none⟩)]) hw Tryz.func93 rfl kL ?_
 refine sC ?_
 refine sp rfl<|sp rfl<|sp rfl<|sP (.pointer (some ⟨gx,f,none⟩)) ?_
 refine Sy.callT (λw hw=>truth_r w0.inn gc gr gx f tx A ([Value.int .u64 0]++(lPT ⟨0,0,false⟩++Z)) sl s R S hS hA he hl hv w (by simpa only [List.append_assoc] using hw)) (λu M hM=>?_)
 obtain ⟨x1,s1,sl1,cs1,N1,a1,n1,o1,rfl,e1,h1,y1,rfl⟩:=hM
 have hS1:∀ b∈S,b∈R++N1:=λb h=>List.mem_append_left _ (hS b h)
 refine sA ?_
 refine sp rfl<|sp rfl<|sP (.pointer (some ⟨gx,f,none⟩))<|sS (.bool x1) (Quiet.cell 1 gx f tx 4 (A++([Value.bool x1]++([Value.int .u64 0]++(lPT ⟨0,0,false⟩++Z)))).toArray _ _ rfl kR rfl Tryz.underlying4 rfl _ (by rw [List.getElem?_toArray,List.getElem?_append_right (by omega),hA,Nat.sub_self]; rfl)) ?_
 refine sG ?_
 cases x1
 case' true =>
  have A1:(A++[Value.bool true]).length=f+1:=by rw [List.length_append,hA]; rfl
  have A2:(A++[Value.bool true]++[Value.int .u64 0]).length=f+2:=by rw [List.length_append,A1]; rfl
  refine sT<|sC ?_
  refine sp rfl<|sp rfl<|sp rfl<|sP (.pointer (some ⟨gx,f+2,none⟩)) ?_
  refine Sy.callT (λw hw=>point_r w0.inn gc gr gx (f+2) tx (A++[Value.bool true]++[Value.int .u64 0]) Z sl1 s1 (R++N1) S hS1 A2 e1 (Nat.le_trans h1 hl) y1 w (by simpa only [List.append_assoc] using hw)) (λu M hM=>?_)
  obtain ⟨m,s2,sl2,cs2,N2,a2,n2,o2,⟨rfl,b1,b2⟩,e2,h2,y2,rfl⟩:=hM
  refine Sy.permS (M:=CRS gc gr gx tx ((A++[Value.bool true])++([Value.int .u64 0]++(lPT m++Z))) sl2 s2.e (R++N1++N2)) (List.Perm.of_eq (by rw [List.append_assoc (A++[Value.bool true])])) ?_
  refine Sy.nil<|Sy.then_<|Sy.region ?_
  refine sp rfl<|sp rfl<|sp rfl<|sP (.pointer (some ⟨gx,f+1,none⟩))<|sS (.int .u64 0) (Quiet.cell 1 gx (f+1) tx 22 ((A++[Value.bool true])++([Value.int .u64 0]++(lPT m++Z))).toArray _ _ rfl kR rfl Tryz.underlying22 rfl _ (by rw [List.getElem?_toArray,List.getElem?_append_right (by omega),A1,Nat.sub_self]; rfl))<|sP (.bool true) ?_
  have p5:(CRS gc gr gx tx ((A++[Value.bool true])++([Value.int .u64 0]++(lPT m++Z))) sl2 s2.e (R++N1++N2)).Perm (CRN gc gr sl2 s2.e ((gx,tx,((A++[Value.bool true])++([Value.int .u64 0]++(lPT m++Z))).toArray)::(R++N1++N2))):=swap23
  refine Sy.permS p5 ?_
  refine Sy.callT (λw hw=>must_r w0.inn gc gr sl2 s2.e e2 ((gx,tx,((A++[Value.bool true])++([Value.int .u64 0]++(lPT m++Z))).toArray)::(R++N1++N2)) true w hw) (λu M hM=>?_)
  subst hM
  rw [if_pos rfl]
  refine Sy.permS p5.symm ?_
  refine Sy.nil ?_
  have hAf:After rdAM s ⟨true,0,m⟩ s2:=a1.bind (by rw [if_pos rfl]; exact a2.bind (After.ret _ _))
  have hLn:([Value.bool true]++([Value.int .u64 0]++lPT m)).length=11:=rfl
  have hOn:∀ u∈([Value.bool true]++([Value.int .u64 0]++lPT m)),u.oneCell'=true:=ones_app o1 (ones_app (λu hu=>by rw [List.mem_singleton.1 hu]; rfl) o2)
  exact Sy.retT0 rfl (CRS gc gr gx tx (A++(([Value.bool true]++([Value.int .u64 0]++lPT m))++Z)) sl2 s2.e (R++(N1++N2))) (λ_ h=>by simpa only [List.append_assoc,List.cons_append,List.nil_append] using h) (λ_=>⟨_,s2,sl2,_,N1++N2,hAf,hLn,hOn,⟨rfl,(show (0:Nat)<18446744073709551616 by decide),b1,b2⟩,e2,Nat.le_trans h2 h1,y2,rfl⟩)
 have A1:(A++[Value.bool false]).length=f+1:=by rw [List.length_append,hA]; rfl
 refine sU<|sC ?_
 refine sp rfl<|sp rfl<|sp rfl<|sP (.pointer (some ⟨gx,f+1,none⟩)) ?_
 refine Sy.callT (λw hw=>long_r w0.inn gc gr gx (f+1) tx (A++[Value.bool false]) (lPT ⟨0,0,false⟩++Z) sl1 s1 (R++N1) S hS1 A1 e1 (Nat.le_trans h1 hl) y1 w (by simpa only [List.append_assoc] using hw)) (λu M hM=>?_)
 obtain ⟨m,s2,sl2,cs2,N2,a2,n2,o2,⟨rfl,b1⟩,e2,h2,y2,rfl⟩:=hM
 have A2:(A++[Value.bool false]++[Value.int .u64 (m:Int)]).length=f+2:=by rw [List.length_append,A1,n2]
 refine Sy.permS (M:=CRS gc gr gx tx ((A++[Value.bool false]++[Value.int .u64 (m:Int)])++(lPT ⟨0,0,false⟩++Z)) sl2 s2.e (R++N1++N2)) (List.Perm.of_eq (by rw [List.append_assoc (A++[Value.bool false])])) ?_
 refine Sy.nil<|Sy.then_<|Sy.region ?_
 refine sp rfl<|sp rfl<|sp rfl<|sP (.pointer (some ⟨gx,f+2,none⟩))<|sS (Cu.pv 0 0 false) (Quiet.mid 1 gx (f+2) 9 tx 57 ((A++[Value.bool false]++[Value.int .u64 (m:Int)])++(lPT ⟨0,0,false⟩++Z)) (lPT ⟨0,0,false⟩) _ _ rfl kR rfl Tryz.underlying57 rfl kR (mid_cells A2 rfl) (mid_fit A2 rfl))<|sP (Cu.pv 0 0 false)<|sS (.bool true) (Quiet.pure (λw=>Cu.eql_pt w _ _ _ _ 0 0 false 0 0 false rfl rfl rfl (by decide) (by decide) (by decide) (by decide))) ?_
 have p5:(CRS gc gr gx tx ((A++[Value.bool false]++[Value.int .u64 (m:Int)])++(lPT ⟨0,0,false⟩++Z)) sl2 s2.e (R++N1++N2)).Perm (CRN gc gr sl2 s2.e ((gx,tx,((A++[Value.bool false]++[Value.int .u64 (m:Int)])++(lPT ⟨0,0,false⟩++Z)).toArray)::(R++N1++N2))):=swap23
 refine Sy.permS p5 ?_
 refine Sy.callT (λw hw=>must_r w0.inn gc gr sl2 s2.e e2 ((gx,tx,((A++[Value.bool false]++[Value.int .u64 (m:Int)])++(lPT ⟨0,0,false⟩++Z)).toArray)::(R++N1++N2)) true w hw) (λu M hM=>?_)
 subst hM
 rw [if_pos rfl]
 refine Sy.permS p5.symm ?_
 refine Sy.nil ?_
 ·have hAf:After rdAM s ⟨false,m,⟨0,0,false⟩⟩ s2:=a1.bind (by rw [if_neg (by decide)]; exact a2.bind (After.ret _ _))
  have hLn:([Value.bool false]++([Value.int .u64 (m:Int)]++lPT ⟨0,0,false⟩)).length=11:=by rw [List.length_append,List.length_append,n2]; rfl
  have hOn:∀ u∈([Value.bool false]++([Value.int .u64 (m:Int)]++lPT ⟨0,0,false⟩)),u.oneCell'=true:=ones_app o1 (ones_app o2 (lPT_one _))
  exact Sy.retT0 rfl (CRS gc gr gx tx (A++(([Value.bool false]++([Value.int .u64 (m:Int)]++lPT ⟨0,0,false⟩))++Z)) sl2 s2.e (R++(N1++N2))) (λ_ h=>by simpa only [List.append_assoc,List.cons_append,List.nil_append] using h) (λ_=>⟨_,s2,sl2,_,N1++N2,hAf,hLn,hOn,⟨rfl,b1,(show 0<Cu.K4 by decide),(show 0<Cu.K4 by decide)⟩,e2,Nat.le_trans h2 h1,y2,rfl⟩)
end Wr
end
section
namespace Wr
open Go.RowKit Sy
set_option maxRecDepth 100000
set_option maxHeartbeats 4000000
structure MOu where
 kind:Int
 asset:MTag
 amount:MAmt
 range:Byt
 surject:Byt
 note:Byt
 script:Byt
def okK (k:Int):Bool:=decide (1≤k) && decide (k≤4)
def cOU (o:MOu) (vr vs vn vc:Value):List Value:=[.int .i64 o.kind]++(cTG o.asset++(cAM o.amount++([vr]++([vs]++([vn]++[vc])))))
def repOU (C:Rdr) (cs:List Value) (o:MOu):Prop:=∃ vr vs vn vc,cs=cOU o vr vs vn vc∧(o.asset.id.length=32∧o.asset.pt.x<Cu.K4∧o.asset.pt.y<Cu.K4)∧(o.amount.value<18446744073709551616∧o.amount.pt.x<Cu.K4∧o.amount.pt.y<Cu.K4)∧BytR C vr o.range∧BytR C vs o.surject∧BytR C vn o.note∧BytR C vc o.script
theorem monoOU:Mono repOU:=λhl ⟨vr,vs,vn,vc,h1,h2,h3,h4,h5,h6,h7⟩=>⟨vr,vs,vn,vc,h1,h2,h3,h4.le hl,h5.le hl,h6.le hl,h7.le hl⟩
def encT (b:Byt):Byt:=varB b.length++b
def okOU (o:MOu):Bool:=okK o.kind && (okTG o.asset && (okAM o.amount && (decide (o.range.length≤6000) && (decide (o.surject.length≤6000) && (decide (o.note.length≤128) && decide (o.script.length≤256))))))
def encOU (o:MOu):Byt:=[octB o.kind]++(encTG o.asset++(encAM o.amount++(encT o.range++(encT o.surject++(encT o.note++encT o.script)))))
def wtOU (o:MOu):Nat:=1+(34+(34+((9+o.range.length)+((9+o.surject.length)+((9+o.note.length)+(9+o.script.length))))))
def rdOU:Ps MOu:=bindP octP λk=>bindP (mustP (okK k)) λ_=>bindP rdTG λa=>bindP rdAM λb=>bindP (textP 6000) λr=>bindP (textP 6000) λs=>bindP (textP 128) λn=>bindP (textP 256) λc=>retP ⟨k,a,b,r,s,n,c⟩
theorem okK_of {z:Int} (h:¬ (z=1∨z=2∨z=3∨z=4)):okK z=false:=by
 cases hb:okK z with
 | false=>rfl
 | true =>
  unfold okK at hb
  rw [Bool.and_eq_true,decide_eq_true_eq,decide_eq_true_eq] at hb
  exact (h (by omega)).elim
theorem okK_yes {z:Int} (h:z=1∨z=2∨z=3∨z=4):okK z=true∧okO z=true:=by rcases h with rfl | rfl | rfl | rfl <;> exact ⟨rfl,rfl⟩
theorem cTG_len {t:MTag} (h:t.id.length=32):(cTG t).length=42:=by unfold cTG; rw [List.length_append,List.length_append,List.length_map,h]; rfl
theorem out_w:PutO 46 58 repOU okOU encOU wtOU:=λw0 gc gw gx f bad s R b cs x hx _ hc hb hl w hw=>by
 obtain ⟨z,ta,am,rg,su,nt,sc⟩:=x
 obtain ⟨vr,vs,vn,vc,rfl,h1,h2,h3,h4,h5,h6⟩:=hx
 dsimp only at h1 h2 h3 h4 h5 h6
 unfold wtOU at hl
 dsimp only at hl
 have c0:OwnAt R gx f ([.int .i64 z]++(cTG ta++(cAM am++([vr]++([vs]++([vn]++[vc])))))):=hc
 have c1:OwnAt R gx (f+1) (cTG ta++(cAM am++([vr]++([vs]++([vn]++[vc]))))):=c0.right (n:=1) rfl
 have c2:OwnAt R gx (f+43) (cAM am++([vr]++([vs]++([vn]++[vc])))):=by have q:=c1.right (cTG_len h1.1); rwa [Nat.add_assoc] at q
 have c3:OwnAt R gx (f+54) ([vr]++([vs]++([vn]++[vc]))):=by have q:=c2.right (n:=11) rfl; rwa [Nat.add_assoc] at q
 have c4:OwnAt R gx (f+55) ([vs]++([vn]++[vc])):=c3.right (n:=1) rfl
 have c5:OwnAt R gx (f+56) ([vn]++[vc]):=c4.right (n:=1) rfl
 have c6:OwnAt R gx (f+57) [vc]:=c5.right (n:=1) rfl
 have X0:rdC w0.inn R gx f (.int .i64 z):=(c0.at w0.inn).one
 refine Sy.enterT (args:=[ptr gc,.pointer (some ⟨gx,f,none⟩)]) hw Tryz.func46 rfl kL ?_
 refine sC ?_
 refine sp rfl<|sp rfl<|sp rfl<|sP (.pointer (some ⟨gx,f,none⟩)) ?_
 refine Sy.callT (λw hw=>octet_w w0.inn gc gw gx f bad s R b z X0 hb (by omega) w hw) (λu M hM=>?_)
 obtain ⟨s1,bad1,b1,q1,p1,rfl⟩:=hM
 have l1:=q1.len
 refine sA ?_
 refine sp rfl<|sp rfl<|sP (.pointer (some ⟨gx,f,none⟩))<|sS (.int .i64 z) (cellC (R:=R) X0 inCW rfl Tryz.underlying3) ?_
 refine sG<|Sy.block<|Sy.seq<|Sy.block ?_
 by_cases hk:z=1∨z=2∨z=3∨z=4
 ·obtain ⟨k1,k2⟩:=okK_yes hk
  refine Sy.seq ?_
  refine cutC [(0,ptr gc),(1,.pointer (some ⟨gx,f,none⟩))] (CWS gc gw bad1 s1 R) ?_ ?_
  ·clear hl X0 c0 q1 k1 k2 hc
   rcases hk with rfl | rfl | rfl | rfl
   ·refine Sy.block<|Sy.block<|Sy.block<|Sy.block<|Sy.seq<|Sy.seq<|sC ?_
    refine sP (.bool true)<|sp rfl ?_
    refine sG<|sT<|Sy.exit<|Sy.then_exit<|Sy.then_exit<|Sy.in_exit<|Sy.in_<|Sy.in_<|Sy.in_ ?_
    exact meet (all_cons kR (all_cons kR all_nil)) (λ_ h=>h)
   ·refine Sy.block<|Sy.block<|Sy.block<|Sy.block<|Sy.seq<|Sy.seq<|sC ?_
    refine sP (.bool false)<|sp rfl ?_
    refine sG<|sU<|Sy.skip<|Sy.then_<|Sy.seq<|sC ?_
    refine sP (.bool true)<|sp rfl ?_
    refine sG<|sT<|Sy.exit<|Sy.then_exit<|Sy.then_exit ?_
    refine Sy.in_pass (by decide) ?_
    refine Sy.in_exit<|Sy.in_<|Sy.in_ ?_
    exact meet (all_cons kR (all_cons kR all_nil)) (λ_ h=>h)
   ·refine Sy.block<|Sy.block<|Sy.block<|Sy.block<|Sy.seq<|Sy.seq<|sC ?_
    refine sP (.bool false)<|sp rfl ?_
    refine sG<|sU<|Sy.skip<|Sy.then_<|Sy.seq<|sC ?_
    refine sP (.bool false)<|sp rfl ?_
    refine sG<|sU<|Sy.skip<|Sy.then_<|Sy.seq<|sC ?_
    refine sP (.bool true)<|sp rfl ?_
    refine sG<|sT<|Sy.exit<|Sy.then_exit<|Sy.then_exit ?_
    refine Sy.in_pass (by decide) ?_
    refine Sy.in_pass (by decide) ?_
    refine Sy.in_exit<|Sy.in_ ?_
    exact meet (all_cons kR (all_cons kR all_nil)) (λ_ h=>h)
   ·refine Sy.block<|Sy.block<|Sy.block<|Sy.block<|Sy.seq<|Sy.seq<|sC ?_
    refine sP (.bool false)<|sp rfl ?_
    refine sG<|sU<|Sy.skip<|Sy.then_<|Sy.seq<|sC ?_
    refine sP (.bool false)<|sp rfl ?_
    refine sG<|sU<|Sy.skip<|Sy.then_<|Sy.seq<|sC ?_
    refine sP (.bool false)<|sp rfl ?_
    refine sG<|sU<|Sy.skip<|Sy.then_<|sC ?_
    refine sP (.bool true)<|sp rfl ?_
    refine sG<|sT<|Sy.exit<|Sy.then_exit ?_
    refine Sy.in_pass (by decide) ?_
    refine Sy.in_pass (by decide) ?_
    refine Sy.in_pass (by decide) ?_
    refine Sy.in_exit ?_
    exact meet (all_cons kR (all_cons kR all_nil)) (λ_ h=>h)
  refine Sy.then_<|Sy.seq<|sC ?_
  refine sp rfl<|sp rfl<|sp rfl<|sP (.pointer (some ⟨gx,f+1,none⟩)) ?_
  refine Sy.callT (λw hw=>tag_w w0.inn gc gw gx (f+1) bad1 s1 R b1 (cTG ta) ta ⟨rfl,h1⟩ (cTG_len h1.1) c1.left p1 (by show _+34≤_; omega) w hw) (λu M hM=>?_)
  obtain ⟨s2,bad2,b2,q2,p2,rfl⟩:=hM
  have l2:b2.length≤b1.length+34:=q2.len
  refine sA ?_
  refine sp rfl<|sp rfl<|sp rfl<|sP (.pointer (some ⟨gx,f+43,none⟩)) ?_
  refine Sy.callT (λw hw=>amount_w w0.inn gc gw gx (f+43) bad2 s2 R b2 (cAM am) am ⟨rfl,h2⟩ rfl c2.left p2 (by show _+34≤_; omega) w hw) (λu M hM=>?_)
  obtain ⟨s3,bad3,b3,q3,p3,rfl⟩:=hM
  have l3:b3.length≤b2.length+34:=q3.len
  refine sA ?_
  refine sp rfl<|sp rfl<|sp rfl<|sP (.pointer (some ⟨gx,f+54,none⟩)) ?_
  refine Sy.callT (λw hw=>text_w w0.inn gc gw gx (f+54) bad3 s3 R b3 rg vr 6000 (by decide) h3 (c3.at w0.inn).one p3 (by omega) w hw) (λu M hM=>?_)
  obtain ⟨s4,bad4,b4,q4,p4,rfl⟩:=hM
  have l4:b4.length≤b3.length+(9+rg.length):=q4.len
  refine sA ?_
  refine sp rfl<|sp rfl<|sp rfl<|sP (.pointer (some ⟨gx,f+55,none⟩)) ?_
  refine Sy.callT (λw hw=>text_w w0.inn gc gw gx (f+55) bad4 s4 R b4 su vs 6000 (by decide) h4 (c4.at w0.inn).one p4 (by omega) w hw) (λu M hM=>?_)
  obtain ⟨s5,bad5,b5,q5,p5,rfl⟩:=hM
  have l5:b5.length≤b4.length+(9+su.length):=q5.len
  refine sA ?_
  refine sp rfl<|sp rfl<|sp rfl<|sP (.pointer (some ⟨gx,f+56,none⟩)) ?_
  refine Sy.callT (λw hw=>text_w w0.inn gc gw gx (f+56) bad5 s5 R b5 nt vn 128 (by decide) h5 (c5.at w0.inn).one p5 (by omega) w hw) (λu M hM=>?_)
  obtain ⟨s6,bad6,b6,q6,p6,rfl⟩:=hM
  have l6:b6.length≤b5.length+(9+nt.length):=q6.len
  refine Sy.nil<|Sy.then_<|Sy.region ?_
  refine sp rfl<|sp rfl<|sp rfl<|sP (.pointer (some ⟨gx,f+57,none⟩)) ?_
  refine Sy.callT (λw hw=>text_w w0.inn gc gw gx (f+57) bad6 s6 R b6 sc vc 256 (by decide) h6 (c6.at w0.inn).one p6 (by omega) w hw) (λu M hM=>?_)
  obtain ⟨s7,bad7,b7,q7,p7,rfl⟩:=hM
  have l7:b7.length≤b6.length+(9+sc.length):=q7.len
  refine Sy.nil<|Sy.then_<|Sy.exit ?_
  refine Sy.in_pass (by decide) ?_
  refine Sy.then_exit<|Sy.in_exit ?_
  have q:=q1.then_ (q2.then_ (q3.then_ (q4.then_ (q5.then_ (q6.then_ q7)))))
  rw [k2, ← k1] at q
  exact Sy.retT0 rfl (CWS gc gw bad7 s7 R) (λ_ h=>h) (λ_=>⟨s7,bad7,b7,q,p7,rfl⟩)
 refine Sy.seq<|Sy.block<|Sy.block<|Sy.block<|Sy.block<|Sy.seq<|Sy.seq<|sC ?_
 refine sS (.bool false) (Quiet.pure (exec_int .eql _ _ _ .i64 _ _ _ rfl rfl rfl (int_eql _ _ _ _ _ (decide_eq_false (λe=>hk (by simp [e]))))))<|sp rfl ?_
 refine sG<|sU<|Sy.skip<|Sy.then_<|Sy.seq<|sC ?_
 refine sS (.bool false) (Quiet.pure (exec_int .eql _ _ _ .i64 _ _ _ rfl rfl rfl (int_eql _ _ _ _ _ (decide_eq_false (λe=>hk (by simp [e]))))))<|sp rfl ?_
 refine sG<|sU<|Sy.skip<|Sy.then_<|Sy.seq<|sC ?_
 refine sS (.bool false) (Quiet.pure (exec_int .eql _ _ _ .i64 _ _ _ rfl rfl rfl (int_eql _ _ _ _ _ (decide_eq_false (λe=>hk (by simp [e]))))))<|sp rfl ?_
 refine sG<|sU<|Sy.skip<|Sy.then_<|sC ?_
 refine sS (.bool false) (Quiet.pure (exec_int .eql _ _ _ .i64 _ _ _ rfl rfl rfl (int_eql _ _ _ _ _ (decide_eq_false (λe=>hk (by simp [e]))))))<|sp rfl ?_
 refine sG<|sU<|Sy.skip<|Sy.then_<|Sy.exit ?_
 refine Sy.in_pass (by decide) ?_
 refine Sy.in_pass (by decide) ?_
 refine Sy.in_pass (by decide) ?_
 refine Sy.in_pass (by decide) ?_
 refine Sy.then_exit<|Sy.in_exit<|sB ?_
 refine sp rfl ?_
 refine Sy.callT (λw hw=>must_w w0.inn gc gw bad1 false s1 R w hw) (λu M hM=>?_)
 subst hM
 refine sG<|Sy.exit<|Sy.in_exit ?_
 have hno:okOU ⟨z,ta,am,rg,su,nt,sc⟩=false:=by unfold okOU; rw [okK_of hk]; rfl
 exact Sy.retT0 rfl (CWS gc gw (bad1 || !false) s1 R) (λ_ h=>h) (λ_=>⟨s1,bad1 || !false,b1,⟨by rw [hno]; cases bad1 <;> cases bad <;> rfl,λh=>(by cases bad1 <;> cases h),by unfold wtOU; dsimp only; omega⟩,p1,rfl⟩)
end Wr
end
section
namespace Wr
open Go.RowKit Sy
set_option maxRecDepth 100000
set_option maxHeartbeats 4000000
theorem ones_bV (x:Byt):∀ u∈x.map bv,u.oneCell'=true:=λu hu=>by obtain ⟨y,_,rfl⟩:=List.mem_map.1 hu; rfl
theorem header_r:GetC 43 102 (Z32++([Value.int .u64 0]++([Value.int .u64 0]++(Z32++(Z32++([Value.slice none 0 0]++([Value.bool false]++([Value.int .i64 0]++[Value.slice none 0 0])))))))) repHE rdHE:=λw0 gc gr gx f tx A Z sl s R S hS hA he hl hv w hw=>by
 refine Sy.enterT (args:=[ptr gc,.pointer (some ⟨gx,f,none⟩)]) hw Tryz.func43 rfl kL ?_
 refine sC ?_
 refine sp rfl<|sp rfl<|sp rfl<|sP (.pointer (some ⟨gx,f,none⟩)) ?_
 refine Sy.callT (λw hw=>digest_r w0.inn gc gr gx f tx (A) ([Value.int .u64 0]++([Value.int .u64 0]++(Z32++(Z32++([Value.slice none 0 0]++([Value.bool false]++(([Value.int .i64 0]++[Value.slice none 0 0])++Z))))))) sl s (R) S hS hA he (hl) hv w (by simpa only [List.append_assoc] using hw)) (λu M hM=>?_)
 obtain ⟨x1,s1,sl1,cs1,N1,a1,n1,o1,⟨rfl,r1⟩,e1,h1,y1,rfl⟩:=hM
 have g1:s1.rest.length≤s.rest.length:=h1
 have A1:(A++(x1.map bv)).length=f+32:=by rw [List.length_append,hA,n1]
 refine sA ?_
 refine sp rfl<|sp rfl<|sp rfl<|sP (.pointer (some ⟨gx,f+32,none⟩)) ?_
 refine Sy.callT (λw hw=>long_r w0.inn gc gr gx (f+32) tx (A++(x1.map bv)) ([Value.int .u64 0]++(Z32++(Z32++([Value.slice none 0 0]++([Value.bool false]++(([Value.int .i64 0]++[Value.slice none 0 0])++Z)))))) sl1 s1 (R++N1) S (λb h=>List.mem_append_left _ (hS b h)) A1 e1 (Nat.le_trans g1 hl) y1 w (by have e:A++(x1.map bv)++([Value.int .u64 0]++([Value.int .u64 0]++(Z32++(Z32++([Value.slice none 0 0]++([Value.bool false]++(([Value.int .i64 0]++[Value.slice none 0 0])++Z)))))))=A++(x1.map bv++([Value.int .u64 0]++([Value.int .u64 0]++(Z32++(Z32++([Value.slice none 0 0]++([Value.bool false]++(([Value.int .i64 0]++[Value.slice none 0 0])++Z)))))))):=List.append_assoc ..; rw [e]; exact hw)) (λu M hM=>?_)
 obtain ⟨x2,s2,sl2,cs2,N2,a2,n2,o2,⟨rfl,r2⟩,e2,h2,y2,rfl⟩:=hM
 have g2:s2.rest.length≤s.rest.length:=Nat.le_trans h2 g1
 have A2:(A++(x1.map bv)++[Value.int .u64 (x2:Int)]).length=f+33:=by rw [List.length_append,A1,n2]
 refine sA ?_
 refine sp rfl<|sp rfl<|sp rfl<|sP (.pointer (some ⟨gx,f+33,none⟩)) ?_
 refine Sy.callT (λw hw=>long_r w0.inn gc gr gx (f+33) tx (A++(x1.map bv)++[Value.int .u64 (x2:Int)]) (Z32++(Z32++([Value.slice none 0 0]++([Value.bool false]++(([Value.int .i64 0]++[Value.slice none 0 0])++Z))))) sl2 s2 (R++N1++N2) S (λb h=>List.mem_append_left _ (List.mem_append_left _ (hS b h))) A2 e2 (Nat.le_trans g2 hl) y2 w (by have e:A++(x1.map bv)++[Value.int .u64 (x2:Int)]++([Value.int .u64 0]++(Z32++(Z32++([Value.slice none 0 0]++([Value.bool false]++(([Value.int .i64 0]++[Value.slice none 0 0])++Z))))))=A++(x1.map bv)++([Value.int .u64 (x2:Int)]++([Value.int .u64 0]++(Z32++(Z32++([Value.slice none 0 0]++([Value.bool false]++(([Value.int .i64 0]++[Value.slice none 0 0])++Z))))))):=List.append_assoc ..; rw [e]; exact hw)) (λu M hM=>?_)
 obtain ⟨x3,s3,sl3,cs3,N3,a3,n3,o3,⟨rfl,r3⟩,e3,h3,y3,rfl⟩:=hM
 have g3:s3.rest.length≤s.rest.length:=Nat.le_trans h3 g2
 have A3:(A++(x1.map bv)++[Value.int .u64 (x2:Int)]++[Value.int .u64 (x3:Int)]).length=f+34:=by rw [List.length_append,A2,n3]
 refine sA ?_
 refine sp rfl<|sp rfl<|sp rfl<|sP (.pointer (some ⟨gx,f+34,none⟩)) ?_
 refine Sy.callT (λw hw=>digest_r w0.inn gc gr gx (f+34) tx (A++(x1.map bv)++[Value.int .u64 (x2:Int)]++[Value.int .u64 (x3:Int)]) (Z32++([Value.slice none 0 0]++([Value.bool false]++(([Value.int .i64 0]++[Value.slice none 0 0])++Z)))) sl3 s3 (R++N1++N2++N3) S (λb h=>List.mem_append_left _ (List.mem_append_left _ (List.mem_append_left _ (hS b h)))) A3 e3 (Nat.le_trans g3 hl) y3 w (by have e:A++(x1.map bv)++[Value.int .u64 (x2:Int)]++[Value.int .u64 (x3:Int)]++(Z32++(Z32++([Value.slice none 0 0]++([Value.bool false]++(([Value.int .i64 0]++[Value.slice none 0 0])++Z)))))=A++(x1.map bv)++[Value.int .u64 (x2:Int)]++([Value.int .u64 (x3:Int)]++(Z32++(Z32++([Value.slice none 0 0]++([Value.bool false]++(([Value.int .i64 0]++[Value.slice none 0 0])++Z)))))):=List.append_assoc ..; rw [e]; exact hw)) (λu M hM=>?_)
 obtain ⟨x4,s4,sl4,cs4,N4,a4,n4,o4,⟨rfl,r4⟩,e4,h4,y4,rfl⟩:=hM
 have g4:s4.rest.length≤s.rest.length:=Nat.le_trans h4 g3
 have A4:(A++(x1.map bv)++[Value.int .u64 (x2:Int)]++[Value.int .u64 (x3:Int)]++(x4.map bv)).length=f+66:=by rw [List.length_append,A3,n4]
 refine sA ?_
 refine sp rfl<|sp rfl<|sp rfl<|sP (.pointer (some ⟨gx,f+66,none⟩)) ?_
 refine Sy.callT (λw hw=>digest_r w0.inn gc gr gx (f+66) tx (A++(x1.map bv)++[Value.int .u64 (x2:Int)]++[Value.int .u64 (x3:Int)]++(x4.map bv)) ([Value.slice none 0 0]++([Value.bool false]++(([Value.int .i64 0]++[Value.slice none 0 0])++Z))) sl4 s4 (R++N1++N2++N3++N4) S (λb h=>List.mem_append_left _ (List.mem_append_left _ (List.mem_append_left _ (List.mem_append_left _ (hS b h))))) A4 e4 (Nat.le_trans g4 hl) y4 w (by have e:A++(x1.map bv)++[Value.int .u64 (x2:Int)]++[Value.int .u64 (x3:Int)]++(x4.map bv)++(Z32++([Value.slice none 0 0]++([Value.bool false]++(([Value.int .i64 0]++[Value.slice none 0 0])++Z))))=A++(x1.map bv)++[Value.int .u64 (x2:Int)]++[Value.int .u64 (x3:Int)]++(x4.map bv++(Z32++([Value.slice none 0 0]++([Value.bool false]++(([Value.int .i64 0]++[Value.slice none 0 0])++Z))))):=List.append_assoc ..; rw [e]; exact hw)) (λu M hM=>?_)
 obtain ⟨x5,s5,sl5,cs5,N5,a5,n5,o5,⟨rfl,r5⟩,e5,h5,y5,rfl⟩:=hM
 have g5:s5.rest.length≤s.rest.length:=Nat.le_trans h5 g4
 have A5:(A++(x1.map bv)++[Value.int .u64 (x2:Int)]++[Value.int .u64 (x3:Int)]++(x4.map bv)++(x5.map bv)).length=f+98:=by rw [List.length_append,A4,n5]
 refine sA ?_
 refine sp rfl<|sp rfl<|sp rfl<|sP (.pointer (some ⟨gx,f+98,none⟩)) ?_
 refine Sy.callT (λw hw=>text_r 256 (by decide) w0.inn gc gr gx (f+98) tx (A++(x1.map bv)++[Value.int .u64 (x2:Int)]++[Value.int .u64 (x3:Int)]++(x4.map bv)++(x5.map bv)) ([Value.bool false]++(([Value.int .i64 0]++[Value.slice none 0 0])++Z)) sl5 s5 (R++N1++N2++N3++N4++N5) S (λb h=>List.mem_append_left _ (List.mem_append_left _ (List.mem_append_left _ (List.mem_append_left _ (List.mem_append_left _ (hS b h)))))) A5 e5 (Nat.le_trans g5 hl) y5 w (by have e:A++(x1.map bv)++[Value.int .u64 (x2:Int)]++[Value.int .u64 (x3:Int)]++(x4.map bv)++(x5.map bv)++([Value.slice none 0 0]++([Value.bool false]++(([Value.int .i64 0]++[Value.slice none 0 0])++Z)))=A++(x1.map bv)++[Value.int .u64 (x2:Int)]++[Value.int .u64 (x3:Int)]++(x4.map bv)++(x5.map bv++([Value.slice none 0 0]++([Value.bool false]++(([Value.int .i64 0]++[Value.slice none 0 0])++Z)))):=List.append_assoc ..; rw [e]; exact hw)) (λu M hM=>?_)
 obtain ⟨x6,s6,sl6,cs6,N6,a6,n6,o6,⟨v6,rfl,r6⟩,e6,h6,y6,rfl⟩:=hM
 have g6:s6.rest.length≤s.rest.length:=Nat.le_trans h6 g5
 have A6:(A++(x1.map bv)++[Value.int .u64 (x2:Int)]++[Value.int .u64 (x3:Int)]++(x4.map bv)++(x5.map bv)++[v6]).length=f+99:=by rw [List.length_append,A5,n6]
 refine sA ?_
 refine sp rfl<|sp rfl<|sp rfl<|sP (.pointer (some ⟨gx,f+99,none⟩)) ?_
 refine Sy.callT (λw hw=>truth_r w0.inn gc gr gx (f+99) tx (A++(x1.map bv)++[Value.int .u64 (x2:Int)]++[Value.int .u64 (x3:Int)]++(x4.map bv)++(x5.map bv)++[v6]) (([Value.int .i64 0]++[Value.slice none 0 0])++Z) sl6 s6 (R++N1++N2++N3++N4++N5++N6) S (λb h=>List.mem_append_left _ (List.mem_append_left _ (List.mem_append_left _ (List.mem_append_left _ (List.mem_append_left _ (List.mem_append_left _ (hS b h))))))) A6 e6 (Nat.le_trans g6 hl) y6 w (by have e:A++(x1.map bv)++[Value.int .u64 (x2:Int)]++[Value.int .u64 (x3:Int)]++(x4.map bv)++(x5.map bv)++[v6]++([Value.bool false]++(([Value.int .i64 0]++[Value.slice none 0 0])++Z))=A++(x1.map bv)++[Value.int .u64 (x2:Int)]++[Value.int .u64 (x3:Int)]++(x4.map bv)++(x5.map bv)++([v6]++([Value.bool false]++(([Value.int .i64 0]++[Value.slice none 0 0])++Z))):=List.append_assoc ..; rw [e]; exact hw)) (λu M hM=>?_)
 obtain ⟨x7,s7,sl7,cs7,N7,a7,n7,o7,rfl,e7,h7,y7,rfl⟩:=hM
 have g7:s7.rest.length≤s.rest.length:=Nat.le_trans h7 g6
 have A7:(A++(x1.map bv)++[Value.int .u64 (x2:Int)]++[Value.int .u64 (x3:Int)]++(x4.map bv)++(x5.map bv)++[v6]++[Value.bool x7]).length=f+100:=by rw [List.length_append,A6,n7]
 refine sA ?_
 refine sp rfl<|sp rfl<|sP (.pointer (some ⟨gx,f+99,none⟩))<|sS (.bool x7) (Quiet.cell 1 gx (f+99) tx 4 (A++(x1.map bv)++[Value.int .u64 (x2:Int)]++[Value.int .u64 (x3:Int)]++(x4.map bv)++(x5.map bv)++[v6]++([Value.bool x7]++(([Value.int .i64 0]++[Value.slice none 0 0])++Z))).toArray _ _ rfl kR rfl Tryz.underlying4 rfl _ (by rw [List.getElem?_toArray,List.getElem?_append_right (by omega),A6,show f+99 - (f+99)=0 by omega]; rfl)) ?_
 refine sG ?_
 cases x7
 case' true =>
  refine sT<|Sy.region ?_
  refine sp rfl<|sp rfl<|sp rfl<|sP (.pointer (some ⟨gx,f+100,none⟩)) ?_
  refine Sy.callT (λw hw=>params_r w0.inn gc gr gx (f+100) tx (A++(x1.map bv)++[Value.int .u64 (x2:Int)]++[Value.int .u64 (x3:Int)]++(x4.map bv)++(x5.map bv)++[v6]++[Value.bool true]) Z sl7 s7 (R++N1++N2++N3++N4++N5++N6++N7) S (λb h=>List.mem_append_left _ (List.mem_append_left _ (List.mem_append_left _ (List.mem_append_left _ (List.mem_append_left _ (List.mem_append_left _ (List.mem_append_left _ (hS b h)))))))) A7 e7 (Nat.le_trans g7 hl) y7 w (by have e:A++(x1.map bv)++[Value.int .u64 (x2:Int)]++[Value.int .u64 (x3:Int)]++(x4.map bv)++(x5.map bv)++[v6]++[Value.bool true]++(([Value.int .i64 0]++[Value.slice none 0 0])++Z)=A++(x1.map bv)++[Value.int .u64 (x2:Int)]++[Value.int .u64 (x3:Int)]++(x4.map bv)++(x5.map bv)++[v6]++([Value.bool true]++(([Value.int .i64 0]++[Value.slice none 0 0])++Z)):=List.append_assoc ..; rw [e]; exact hw)) (λu M hM=>?_)
  obtain ⟨⟨x8,ks⟩,s8,sl8,cs8,N8,a8,n8,o8,⟨v8,rfl,r8⟩,e8,h8,y8,rfl⟩:=hM
  refine Sy.nil ?_
  have hAf:After rdHE s ⟨x1,x2,x3,x4,x5,x6,true,⟨x8,ks⟩⟩ s8:=a1.bind (a2.bind (a3.bind (a4.bind (a5.bind (a6.bind (a7.bind (After.bind (by rw [if_pos rfl]; exact a8) (After.ret _ _))))))))
  have hLn:(x1.map bv++([Value.int .u64 (x2:Int)]++([Value.int .u64 (x3:Int)]++(x4.map bv++(x5.map bv++([v6]++([Value.bool true]++([Value.int .i64 x8]++[v8])))))))).length=102:=(by simp only [List.length_append,n1,n4,n5]; rfl)
  have hOn:∀ u∈(x1.map bv++([Value.int .u64 (x2:Int)]++([Value.int .u64 (x3:Int)]++(x4.map bv++(x5.map bv++([v6]++([Value.bool true]++([Value.int .i64 x8]++[v8])))))))),u.oneCell'=true:=ones_app o1 (ones_app o2 (ones_app o3 (ones_app o4 (ones_app o5 (ones_app o6 (ones_app o7 (onePA ⟨v8,rfl,r8⟩)))))))
  have hRp:repHE (rdB (N1++(N2++(N3++(N4++(N5++(N6++(N7++N8)))))))) (x1.map bv++([Value.int .u64 (x2:Int)]++([Value.int .u64 (x3:Int)]++(x4.map bv++(x5.map bv++([v6]++([Value.bool true]++([Value.int .i64 x8]++[v8])))))))) ⟨x1,x2,x3,x4,x5,x6,true,⟨x8,ks⟩⟩:=⟨v6,v8,rfl,r1,r4,r5,r2,r3,r6.le (rdB_le λb h=>by simp [h]),LstR.le (rep:=repDG) monoDG (rdB_le λb h=>by simp [h]) r8⟩
  exact Sy.retT0 rfl (CRS gc gr gx tx (A++((x1.map bv++([Value.int .u64 (x2:Int)]++([Value.int .u64 (x3:Int)]++(x4.map bv++(x5.map bv++([v6]++([Value.bool true]++([Value.int .i64 x8]++[v8]))))))))++Z)) sl8 s8.e (R++(N1++(N2++(N3++(N4++(N5++(N6++(N7++N8))))))))) (λ_ h=>by simpa only [List.append_assoc,List.cons_append,List.nil_append] using h) (λ_=>⟨_,s8,sl8,_,_,hAf,hLn,hOn,hRp,e8,Nat.le_trans h8 g7,y8,rfl⟩)
 refine sU<|Sy.region ?_
 refine sp rfl<|sp rfl<|sp rfl<|sP (.pointer (some ⟨gx,f+100,none⟩))<|sP (.pointer (some ⟨gx,f+100,none⟩))<|sS (.int .i64 0) (Quiet.cell 1 gx (f+100) tx 3 (A++(x1.map bv)++[Value.int .u64 (x2:Int)]++[Value.int .u64 (x3:Int)]++(x4.map bv)++(x5.map bv)++[v6]++([Value.bool false]++(([Value.int .i64 0]++[Value.slice none 0 0])++Z))).toArray _ _ rfl kR rfl Tryz.underlying3 rfl _ (by rw [List.getElem?_toArray,List.getElem?_append_right (by omega),A6,show f+100 - (f+99)=1 by omega]; rfl))<|sP (.bool true)<|sp rfl ?_
 refine sp rfl<|sp rfl<|sP (.pointer (some ⟨gx,f+100,none⟩))<|sP (.pointer (some ⟨gx,f+101,none⟩))<|sS (.slice none 0 0) (Quiet.cell 1 gx (f+101) tx 38 (A++(x1.map bv)++[Value.int .u64 (x2:Int)]++[Value.int .u64 (x3:Int)]++(x4.map bv)++(x5.map bv)++[v6]++([Value.bool false]++(([Value.int .i64 0]++[Value.slice none 0 0])++Z))).toArray _ _ rfl kR rfl Tryz.underlying38 rfl _ (by rw [List.getElem?_toArray,List.getElem?_append_right (by omega),A6,show f+101 - (f+99)=2 by omega]; rfl))<|sP (.int .i64 0)<|sP (.bool true)<|sP (.bool true) ?_
 refine Sy.permS (M:=CRN gc gr sl7 s7.e ((gx,tx,(A++(x1.map bv)++[Value.int .u64 (x2:Int)]++[Value.int .u64 (x3:Int)]++(x4.map bv)++(x5.map bv)++[v6]++([Value.bool false]++(([Value.int .i64 0]++[Value.slice none 0 0])++Z))).toArray)::(R++N1++N2++N3++N4++N5++N6++N7))) swap23 ?_
 refine Sy.callT (λw hw=>must_r w0.inn gc gr sl7 s7.e e7 ((gx,tx,(A++(x1.map bv)++[Value.int .u64 (x2:Int)]++[Value.int .u64 (x3:Int)]++(x4.map bv)++(x5.map bv)++[v6]++([Value.bool false]++(([Value.int .i64 0]++[Value.slice none 0 0])++Z))).toArray)::(R++N1++N2++N3++N4++N5++N6++N7)) true w hw) (λu M hM=>?_)
 subst hM
 rw [if_pos rfl]
 refine Sy.permS (M:=CRS gc gr gx tx (A++(x1.map bv)++[Value.int .u64 (x2:Int)]++[Value.int .u64 (x3:Int)]++(x4.map bv)++(x5.map bv)++[v6]++([Value.bool false]++(([Value.int .i64 0]++[Value.slice none 0 0])++Z))) sl7 s7.e (R++N1++N2++N3++N4++N5++N6++N7)) swap23 ?_
 refine Sy.nil ?_
 ·have hAf:After rdHE s ⟨x1,x2,x3,x4,x5,x6,false,⟨0,[]⟩⟩ s7:=a1.bind (a2.bind (a3.bind (a4.bind (a5.bind (a6.bind (a7.bind (After.bind (by rw [if_neg (by decide)]; exact After.ret _ _) (After.ret _ _))))))))
  have hLn:(x1.map bv++([Value.int .u64 (x2:Int)]++([Value.int .u64 (x3:Int)]++(x4.map bv++(x5.map bv++([v6]++([Value.bool false]++([Value.int .i64 0]++[Value.slice none 0 0])))))))).length=102:=(by simp only [List.length_append,n1,n4,n5]; rfl)
  have hOn:∀ u∈(x1.map bv++([Value.int .u64 (x2:Int)]++([Value.int .u64 (x3:Int)]++(x4.map bv++(x5.map bv++([v6]++([Value.bool false]++([Value.int .i64 0]++[Value.slice none 0 0])))))))),u.oneCell'=true:=ones_app o1 (ones_app o2 (ones_app o3 (ones_app o4 (ones_app o5 (ones_app o6 (ones_app o7 (onePA (C:=rdB []) (t:=⟨0,[]⟩) ⟨_,rfl,none,0,0,rfl,rfl,Nat.le_refl _,Nat.zero_le _,λh=>(h rfl).elim⟩)))))))
  have hRp:repHE (rdB (N1++(N2++(N3++(N4++(N5++(N6++N7))))))) (x1.map bv++([Value.int .u64 (x2:Int)]++([Value.int .u64 (x3:Int)]++(x4.map bv++(x5.map bv++([v6]++([Value.bool false]++([Value.int .i64 0]++[Value.slice none 0 0])))))))) ⟨x1,x2,x3,x4,x5,x6,false,⟨0,[]⟩⟩:=⟨v6,Value.slice none 0 0,rfl,r1,r4,r5,r2,r3,r6.le (rdB_le λb h=>by simp [h]),⟨none,0,0,rfl,rfl,Nat.le_refl _,Nat.zero_le _,λh=>(h rfl).elim⟩⟩
  exact Sy.retT0 rfl (CRS gc gr gx tx (A++((x1.map bv++([Value.int .u64 (x2:Int)]++([Value.int .u64 (x3:Int)]++(x4.map bv++(x5.map bv++([v6]++([Value.bool false]++([Value.int .i64 0]++[Value.slice none 0 0]))))))))++Z)) sl7 s7.e (R++(N1++(N2++(N3++(N4++(N5++(N6++N7)))))))) (λ_ h=>by simpa only [List.append_assoc,List.cons_append,List.nil_append] using h) (λ_=>⟨_,s7,sl7,_,_,hAf,hLn,hOn,hRp,e7,g7,y7,rfl⟩)
theorem oneHE {C:Rdr} {cs:List Value} {t:MHe} (h:repHE C cs t):∀ u∈cs,u.oneCell'=true:=by
 obtain ⟨vr,vk,rfl,_,_,_,_,_,h1,h2⟩:=h
 exact ones_app (ones_bV _) (ones_app (λu hu=>by rw [List.mem_singleton.1 hu]; rfl) (ones_app (λu hu=>by rw [List.mem_singleton.1 hu]; rfl) (ones_app (ones_bV _) (ones_app (ones_bV _) (ones_app (λu hu=>by rw [List.mem_singleton.1 hu]; exact h1.cells.2) (ones_app (λu hu=>by rw [List.mem_singleton.1 hu]; rfl) (ones_app (λu hu=>by rw [List.mem_singleton.1 hu]; rfl) (λu hu=>by rw [List.mem_singleton.1 hu]; exact h2.cells.2))))))))
theorem write_hdr {α:Type} {rep:Rdr→List Value→α→Prop} {ok:α→Bool} {enc:α→Byt} {wt:α→Nat} (hm:Mono rep) (hp:PutO 43 102 rep ok enc wt) (w:World) (cs:List Value) (x:α) (hx:rep (rdW w) cs x) (hl:cs.length=102) (hwt:wt x≤70368744170000) :
  Calls Tryz.prog 44 #[.agg cs.toArray,.func (.func 43) #[] #[]] w (GetsN w (BytE (ok x) (enc x))):=by
 refine Sy.enter (args:=[.agg cs.toArray,.func (.func 43) #[] #[]]) Tryz.func44 rfl kL ?_
 refine sC ?_
 refine sM 42 cs.toArray (λgx=>?_) kR (λw=>run_boxR rfl rfl (by kernel_rfl) hl w)
 refine sP (.slice none 0 0)<|sP (.int .i64 0) ?_
 refine sA ?_
 refine Sy.callN kR 57 #[] kF _ (λw _=>new_any w) (λv M hM=>?_)
 obtain ⟨gw,rfl,rfl⟩:=hM
 refine sP (.agg #[ptr gw,.pointer none,.bool false])<|sM 134 #[ptr gw,.pointer none,.bool false] (λgc=>?_)
 refine sp rfl ?_
 refine sA ?_
 refine Sy.permS (M:=CWS gc gw false nilS [(gx,42,cs.toArray)]) (Sy.perm_at [2,1,0] (by kernel_rfl) (by rfl)) ?_
 refine sp rfl<|sp rfl ?_
 refine Sy.callT (λw' hw=>hp (Base.of w) gc gw gx 0 false nilS [(gx,42,cs.toArray)] [] cs x (hm rdW_base hx) hl (ownX (List.mem_singleton.2 rfl)) BS.nil (by show 0+_≤_; omega) w' hw) (λv M hM=>?_)
 obtain ⟨s,bad,b,q1,q2,rfl⟩:=hM
 have hbl:b.length≤wt x:=by have:=q1.len; simpa using this
 refine sG<|Sy.seq<|sC ?_
 refine sp rfl<|sp rfl<|sP (.pointer (some ⟨gc,2,none⟩))<|sS (.bool bad) (qc 0 2 rfl rfl Tryz.underlying4) ?_
 refine sG ?_
 cases bad
 ·have hok:ok x=true:=by
   have e:=q1.bad
   cases h:ok x with
   | true=>rfl
   | false=>rw [h] at e; cases e
  obtain rfl:b=enc x:=by have:=q1.bytes rfl; simpa using this
  refine sU<|Sy.skip<|sB ?_
  refine sp rfl<|sp rfl<|sP (.pointer (some ⟨gc,0,none⟩))<|sS (ptr gw) (qc 0 0 rfl rfl Tryz.underlying130) ?_
  refine Sy.callT (λw' hw=>bytes_any (Base.of w) gw s ((gc,134,#[ptr gw,.pointer none,.bool false])::[(gx,42,cs.toArray)]) (enc x) q2 (by omega) w' (hw.perm permCW)) (λv M hM=>?_)
  obtain ⟨N,hN,rfl⟩:=hM
  refine sp rfl<|sP (.int .i64 0) ?_
  refine sG<|Sy.ret ?_
  exact Sy.retGM2 N rfl (.inl (show _=_ by kernel_rfl)) (.inl (show _=_ by kernel_rfl)) (λ_ h=>h.less (List.sublist_append_right _ _)) (.inl ⟨hok,v,rfl,hN⟩)
 ·have hok:ok x=false:=by
   have e:=q1.bad
   cases h:ok x with
   | false=>rfl
   | true=>rw [h] at e; cases e
  refine sT<|sC ?_
  refine sP (.slice none 0 0)<|sP (.int .i64 120) ?_
  refine sG<|Sy.ret<|Sy.then_ret ?_
  exact Sy.retGM2 [] rfl (.inl (show _=_ by kernel_rfl)) (.inl (show _=_ by kernel_rfl)) (λ_ h=>h.none) (.inr ⟨hok,rfl,rfl⟩)
theorem ex_hdr {α:Type} {rep:Rdr→List Value→α→Prop} {ok:α→Bool} {enc:α→Byt} {wt:α→Nat} (hm:Mono rep) (hp:PutO 43 102 rep ok enc wt) (w:World) (cs:List Value) (x:α) (hx:rep (rdW w) cs x) (hl:cs.length=102) (hwt:wt x≤70368744170000) :
  Calls Tryz.prog 18 #[.agg cs.toArray] w (GetsN w (BytE (ok x) (enc x))):=by
 refine Sy.enter (args:=[.agg cs.toArray]) Tryz.func18 rfl kL ?_
 refine sC ?_
 refine sM 42 cs.toArray (λgx=>?_) kR (λw=>run_boxR rfl rfl (by kernel_rfl) hl w)
 refine sP (.slice none 0 0)<|sP (.int .i64 0) ?_
 refine sA ?_
 refine sS (.agg cs.toArray) (rowC (R:=[(gx,42,cs.toArray)]) (memX (List.mem_singleton.2 rfl)) (λ_ h=>h) hl rfl Tryz.underlying42) ?_
 refine Sy.callN kR 44 #[.agg cs.toArray,.func (.func 43) #[] #[]] kF (BytE (ok x) (enc x)) (λw' hw=>write_hdr (rep:=rep) hm hp w' cs x (hm (λg o u h=>rdC_world (R:=[]) hw (λ_ h=>by cases h) g o u (.inl h)) hx) hl hwt) (λv M hM=>?_)
 have hv:∃ a e:Value,v=.tuple #[a,e]:=by
  rcases hM with ⟨_,u,rfl,_⟩ | ⟨_,rfl,_⟩ <;> exact ⟨_,_,rfl⟩
 obtain ⟨a,e,rfl⟩:=hv
 refine sp rfl<|sp rfl<|sp rfl<|sp rfl ?_
 refine sG<|Sy.ret ?_
 exact Sy.retGM2 M rfl (.inl (show _=_ by kernel_rfl)) (.inl (show _=_ by kernel_rfl)) (λ_ h=>h.less (List.sublist_append_right _ _)) hM
theorem read_hdr {α:Type} {rep:Rdr→List Value→α→Prop} {p:Ps α} (hm:Mono rep) (hp:GetC 43 102 (Z32++([Value.int .u64 0]++([Value.int .u64 0]++(Z32++(Z32++([Value.slice none 0 0]++([Value.bool false]++([Value.int .i64 0]++[Value.slice none 0 0])))))))) rep p) (w:World) (v:Value) (b:Byt) (hv:BytR (rdW w) v b) (hl:b.length≤70368744177664) :
  Calls Tryz.prog 42 #[v,.func (.func 43) #[] #[]] w (GetsN w (RdE 102 (Z32++([Value.int .u64 0]++([Value.int .u64 0]++(Z32++(Z32++([Value.slice none 0 0]++([Value.bool false]++([Value.int .i64 0]++[Value.slice none 0 0])))))))) rep (allP p b))):=by
 refine Sy.enter (args:=[v,.func (.func 43) #[] #[]]) Tryz.func42 rfl kL ?_
 refine sC ?_
 refine sM 42 (Z32++([Value.int .u64 0]++([Value.int .u64 0]++(Z32++(Z32++([Value.slice none 0 0]++([Value.bool false]++([Value.int .i64 0]++[Value.slice none 0 0])))))))).toArray (λg4=>?_)
 refine sP (.int .i64 0) ?_
 refine sA ?_
 refine sM 42 (Z32++([Value.int .u64 0]++([Value.int .u64 0]++(Z32++(Z32++([Value.slice none 0 0]++([Value.bool false]++([Value.int .i64 0]++[Value.slice none 0 0])))))))).toArray (λg6=>?_)
 refine sM 42 (Z32++([Value.int .u64 0]++([Value.int .u64 0]++(Z32++(Z32++([Value.slice none 0 0]++([Value.bool false]++([Value.int .i64 0]++[Value.slice none 0 0])))))))).toArray (λg7=>?_)
 refine sA ?_
 refine sp rfl ?_
 refine Sy.callN kR 67 #[v] kF _ (λw' hw=>read_any w' v b (hv.at hw) hl) (λu M hM=>?_)
 obtain ⟨gr,sl,N0,hN0,rfl,rfl⟩:=hM
 refine sP (.agg #[.pointer none,ptr gr,.bool false])<|sM 134 #[.pointer none,ptr gr,.bool false] (λgc=>?_)
 refine Sy.permS (M:=CRS gc gr g6 42 ([]++((Z32++([Value.int .u64 0]++([Value.int .u64 0]++(Z32++(Z32++([Value.slice none 0 0]++([Value.bool false]++([Value.int .i64 0]++[Value.slice none 0 0]))))))))++[])) sl 0 ((g4,42,(Z32++([Value.int .u64 0]++([Value.int .u64 0]++(Z32++(Z32++([Value.slice none 0 0]++([Value.bool false]++([Value.int .i64 0]++[Value.slice none 0 0])))))))).toArray)::(g7,42,(Z32++([Value.int .u64 0]++([Value.int .u64 0]++(Z32++(Z32++([Value.slice none 0 0]++([Value.bool false]++([Value.int .i64 0]++[Value.slice none 0 0])))))))).toArray)::N0)) (Sy.flat_perm (ls:=[[(g4,42,(Z32++([Value.int .u64 0]++([Value.int .u64 0]++(Z32++(Z32++([Value.slice none 0 0]++([Value.bool false]++([Value.int .i64 0]++[Value.slice none 0 0])))))))).toArray)],[(g6,42,(Z32++([Value.int .u64 0]++([Value.int .u64 0]++(Z32++(Z32++([Value.slice none 0 0]++([Value.bool false]++([Value.int .i64 0]++[Value.slice none 0 0])))))))).toArray)],[(g7,42,(Z32++([Value.int .u64 0]++([Value.int .u64 0]++(Z32++(Z32++([Value.slice none 0 0]++([Value.bool false]++([Value.int .i64 0]++[Value.slice none 0 0])))))))).toArray)],[(gr,253,#[sl,.int .i64 0])],N0,[(gc,134,#[.pointer none,ptr gr,.bool false])]]) (ms:=[[(gc,134,#[.pointer none,ptr gr,.bool false])],[(g6,42,(Z32++([Value.int .u64 0]++([Value.int .u64 0]++(Z32++(Z32++([Value.slice none 0 0]++([Value.bool false]++([Value.int .i64 0]++[Value.slice none 0 0])))))))).toArray)],[(gr,253,#[sl,.int .i64 0])],[(g4,42,(Z32++([Value.int .u64 0]++([Value.int .u64 0]++(Z32++(Z32++([Value.slice none 0 0]++([Value.bool false]++([Value.int .i64 0]++[Value.slice none 0 0])))))))).toArray)],[(g7,42,(Z32++([Value.int .u64 0]++([Value.int .u64 0]++(Z32++(Z32++([Value.slice none 0 0]++([Value.bool false]++([Value.int .i64 0]++[Value.slice none 0 0])))))))).toArray)],N0]) [5,1,3,0,2,4] (by kernel_rfl) (by rfl) (by simp) (by simp)) ?_
 refine sp rfl ?_
 refine sA ?_
 refine sp rfl<|sp rfl ?_
 refine Sy.callT (λw' hw=>hp (Base.of w) gc gr g6 0 42 [] [] sl ⟨b,0⟩ ((g4,42,(Z32++([Value.int .u64 0]++([Value.int .u64 0]++(Z32++(Z32++([Value.slice none 0 0]++([Value.bool false]++([Value.int .i64 0]++[Value.slice none 0 0])))))))).toArray)::(g7,42,(Z32++([Value.int .u64 0]++([Value.int .u64 0]++(Z32++(Z32++([Value.slice none 0 0]++([Value.bool false]++([Value.int .i64 0]++[Value.slice none 0 0])))))))).toArray)::N0) N0 (λx h=>List.mem_cons_of_mem _ (List.mem_cons_of_mem _ h)) rfl (Nat.zero_le _) hl (hN0.byt.le rdB_base) w' hw) (λu M hM=>?_)
 obtain ⟨x,s',sl',cs,N,q1,q2,q3,q4,q5,q6,q7,rfl⟩:=hM
 rw [List.append_nil]
 obtain ⟨o1,o2⟩:=all_of q1
 obtain ⟨e,hE⟩:∃ e,e=if s'.e=0∧0<s'.rest.length then 113 else s'.e:=⟨_,rfl⟩
 have hEl:e≤200:=by rw [hE]; split <;> omega
 refine sG<|Sy.seq<|sC ?_
 obtain ⟨b1,hb1⟩:∃ z:Bool,z=decide (e≠0):=⟨_,rfl⟩
 refine sp rfl<|sp rfl<|sP (.pointer (some ⟨gc,1,none⟩))<|sS (ptr gr) (qc 0 1 rfl rfl Tryz.underlying132)<|sS (.int .i64 (e:Int)) (qg (λw' hw=>by rw [hE]; exact end_any (Base.of w) gr sl' s' N0 q5 q7 (List.mem_cons_of_mem _ (List.mem_cons_of_mem _ (List.mem_cons_self ..))) w' hw))<|sS (.bool b1) (Quiet.pure (exec_int .neq _ _ _ .i64 _ _ _ rfl rfl rfl (int_neq _ _ _ _ _ (by rw [hb1]; exact decide_eq_decide.2 (by omega))))) ?_
 refine sG ?_
 cases b1
 ·have l1:e=0:=Decidable.of_not_not (of_decide_eq_false hb1.symm)
  have l2:s'.e=0∧s'.rest=[]:=by
   by_cases h:s'.e=0∧0<s'.rest.length
   ·rw [if_pos h] at hE; omega
   ·rw [if_neg h] at hE
    exact ⟨by omega,List.eq_nil_of_length_eq_zero (by omega)⟩
  refine sU<|Sy.skip<|sB ?_
  refine sS (.agg cs.toArray) (Quiet.mid 1 g6 0 102 42 42 cs cs _ _ rfl kR rfl Tryz.underlying42 rfl kR (by rw [List.drop_zero,List.take_of_length_le (by omega)]) (by omega))<|sw 3 rfl cs.toArray (Writes.row 42 cs 102 _ _ rfl kR kR kR q2 (by kernel_rfl) q3)<|sP (.int .i64 0) ?_
  refine sG<|Sy.ret ?_
  exact Sy.retGM2 N rfl (.inl (Sy.Res.cell (ty':=42) g4 3 cs.toArray _ (by kernel_rfl) rfl Tryz.underlying42 rfl (by rw [List.size_toArray,q2]; kernel_rfl) rfl)) (.inl (show _=_ by kernel_rfl)) (λ_ h=>h.less (List.sublist_append_right [(gc,134,#[.pointer none,ptr gr,.bool false]),(g6,42,cs.toArray),(gr,253,#[sl',.int .i64 (s'.e:Int)]),(g4,42,cs.toArray),(g7,42,(Z32++([Value.int .u64 0]++([Value.int .u64 0]++(Z32++(Z32++([Value.slice none 0 0]++([Value.bool false]++([Value.int .i64 0]++[Value.slice none 0 0])))))))).toArray)] (N0++N) |> λh1=>(List.sublist_append_right N0 N).trans h1)) (.inl ⟨x,cs,o1 l2.1 l2.2,rfl,q2,q4⟩)
 ·have l1:e≠0:=of_decide_eq_true hb1.symm
  have l2:s'.e≠0∨s'.rest≠[]:=by
   by_cases h:s'.e=0∧0<s'.rest.length
   ·exact .inr (λe=>by rw [e] at h; exact absurd h.2 (by decide))
   ·rw [if_neg h] at hE; exact .inl (by omega)
  refine sT<|sC ?_
  refine sS (.agg (Z32++([Value.int .u64 0]++([Value.int .u64 0]++(Z32++(Z32++([Value.slice none 0 0]++([Value.bool false]++([Value.int .i64 0]++[Value.slice none 0 0])))))))).toArray) (qk 4 0 102 rfl rfl Tryz.underlying42)<|sw 3 rfl (Z32++([Value.int .u64 0]++([Value.int .u64 0]++(Z32++(Z32++([Value.slice none 0 0]++([Value.bool false]++([Value.int .i64 0]++[Value.slice none 0 0])))))))).toArray (wA rfl)<|sP (.int .i64 120) ?_
  refine sG<|Sy.ret<|Sy.then_ret ?_
  exact Sy.retGM2 [] rfl (.inl (Sy.Res.cell (ty':=42) g4 3 (Z32++([Value.int .u64 0]++([Value.int .u64 0]++(Z32++(Z32++([Value.slice none 0 0]++([Value.bool false]++([Value.int .i64 0]++[Value.slice none 0 0])))))))).toArray _ (by kernel_rfl) rfl Tryz.underlying42 rfl (by kernel_rfl) rfl)) (.inl (show _=_ by kernel_rfl)) (λ_ h=>h.none) (.inr ⟨o2 l2,rfl,rfl⟩)
theorem rdx_hdr {α:Type} {rep:Rdr→List Value→α→Prop} {p:Ps α} (hm:Mono rep) (hone:∀ {C:Rdr} {cs:List Value} {x:α},rep C cs x→∀ u∈cs,u.oneCell'=true) (hp:GetC 43 102 (Z32++([Value.int .u64 0]++([Value.int .u64 0]++(Z32++(Z32++([Value.slice none 0 0]++([Value.bool false]++([Value.int .i64 0]++[Value.slice none 0 0])))))))) rep p) (w:World) (v:Value) (b:Byt) (hv:BytR (rdW w) v b) (hl:b.length≤70368744177664) :
  Calls Tryz.prog 17 #[v] w (GetsN w (RdE 102 (Z32++([Value.int .u64 0]++([Value.int .u64 0]++(Z32++(Z32++([Value.slice none 0 0]++([Value.bool false]++([Value.int .i64 0]++[Value.slice none 0 0])))))))) rep (allP p b))):=by
 refine Sy.enter (args:=[v]) Tryz.func17 rfl kL ?_
 refine sC ?_
 refine sM 42 (Z32++([Value.int .u64 0]++([Value.int .u64 0]++(Z32++(Z32++([Value.slice none 0 0]++([Value.bool false]++([Value.int .i64 0]++[Value.slice none 0 0])))))))).toArray (λg2=>?_)
 refine sP (.int .i64 0) ?_
 refine sA ?_
 refine sp rfl ?_
 refine Sy.callN kR 42 #[v,.func (.func 43) #[] #[]] kF _ (λw' hw=>read_hdr (rep:=rep) (p:=p) hm hp w' v b (hv.at hw) hl) (λu M hM=>?_)
 rcases hM with ⟨x,cs,o1,rfl,q2,q4⟩ | ⟨o1,rfl,rfl⟩
 ·have q3:∀ u∈cs,u.oneCell'=true:=hone q4
  refine sp rfl<|sp rfl<|sw 0 rfl cs.toArray (Writes.row 42 cs 102 _ _ rfl kR kR kR q2 (by kernel_rfl) q3)<|sp rfl ?_
  refine sG<|Sy.ret ?_
  exact Sy.retGM2 M rfl (.inl (Sy.Res.cell (ty':=42) g2 0 cs.toArray _ (by kernel_rfl) rfl Tryz.underlying42 rfl (by rw [List.size_toArray,q2]; kernel_rfl) rfl)) (.inl (show _=_ by kernel_rfl)) (λ_ h=>h.less (List.sublist_cons_self _ _)) (.inl ⟨x,cs,o1,rfl,q2,q4⟩)
 ·refine sp rfl<|sp rfl<|sw 0 rfl (Z32++([Value.int .u64 0]++([Value.int .u64 0]++(Z32++(Z32++([Value.slice none 0 0]++([Value.bool false]++([Value.int .i64 0]++[Value.slice none 0 0])))))))).toArray (wA rfl)<|sp rfl ?_
  refine sG<|Sy.ret ?_
  exact Sy.retGM2 [] rfl (.inl (Sy.Res.cell (ty':=42) g2 0 (Z32++([Value.int .u64 0]++([Value.int .u64 0]++(Z32++(Z32++([Value.slice none 0 0]++([Value.bool false]++([Value.int .i64 0]++[Value.slice none 0 0])))))))).toArray _ (by kernel_rfl) rfl Tryz.underlying42 rfl (by kernel_rfl) rfl)) (.inl (show _=_ by kernel_rfl)) (λ_ h=>h.none) (.inr ⟨o1,rfl,rfl⟩)
end Wr
end
section
namespace Wr
open Go.RowKit Sy
set_option maxRecDepth 100000
set_option maxHeartbeats 4000000
theorem After.mustX {α:Type} (f:Unit→Ps α) (y:α) {s s':RS} (h:s'.e≠0):After (bindP (mustP false) f) s y s':=⟨λ_=>h,λz r _ hp=>(by cases hp),λ_ _=>h⟩
theorem After.mustY {α:Type} {f:Unit→Ps α} {b:Bool} {y:α} {s s':RS} (hb:b=true) (h:After (f ()) s y s'):After (bindP (mustP b) f) s y s':=by subst hb; exact h
theorem one_ni:∀ u∈[Value.slice none 0 0],u.oneCell'=true:=λu hu=>by rw [List.mem_singleton.1 hu]; rfl
theorem out_r:GetC 46 58 ([Value.int .i64 0]++(([Value.bool false]++(Z32++lPT ⟨0,0,false⟩))++(([Value.bool false]++([Value.int .u64 0]++lPT ⟨0,0,false⟩))++([Value.slice none 0 0]++([Value.slice none 0 0]++([Value.slice none 0 0]++([Value.slice none 0 0]))))))) repOU rdOU:=λw0 gc gr gx f tx A Z sl s R S hS hA he hl hv w hw=>by
 refine Sy.enterT (args:=[ptr gc,.pointer (some ⟨gx,f,none⟩)]) hw Tryz.func46 rfl kL ?_
 refine sC ?_
 refine sp rfl<|sp rfl<|sp rfl<|sP (.pointer (some ⟨gx,f,none⟩)) ?_
 refine Sy.callT (λw hw=>octet_r w0.inn gc gr gx f tx (A) (([Value.bool false]++(Z32++lPT ⟨0,0,false⟩))++(([Value.bool false]++([Value.int .u64 0]++lPT ⟨0,0,false⟩))++([Value.slice none 0 0]++([Value.slice none 0 0]++([Value.slice none 0 0]++([Value.slice none 0 0]++(Z))))))) sl s (R) S hS hA he (hl) hv w (by simpa only [List.append_assoc] using hw)) (λu M hM=>?_)
 obtain ⟨x1,s1,sl1,cs1,N1,a1,n1,o1,rfl,e1,h1,y1,rfl⟩:=hM
 have g1:s1.rest.length≤s.rest.length:=h1
 have A1:(A++[Value.int .i64 x1]).length=f+1:=by rw [List.length_append,hA,n1]
 refine sA ?_
 refine sp rfl<|sp rfl<|sP (.pointer (some ⟨gx,f,none⟩))<|sS (.int .i64 x1) (Quiet.cell 1 gx f tx 3 (A++([Value.int .i64 x1]++(([Value.bool false]++(Z32++lPT ⟨0,0,false⟩))++(([Value.bool false]++([Value.int .u64 0]++lPT ⟨0,0,false⟩))++([Value.slice none 0 0]++([Value.slice none 0 0]++([Value.slice none 0 0]++([Value.slice none 0 0]++(Z))))))))).toArray _ _ rfl kR rfl Tryz.underlying3 rfl _ (by rw [List.getElem?_toArray,List.getElem?_append_right (by omega),hA,Nat.sub_self]; rfl)) ?_
 refine sG<|Sy.block<|Sy.seq<|Sy.block ?_
 by_cases hk:x1=1∨x1=2∨x1=3∨x1=4
 ·obtain ⟨k1,k2⟩:=okK_yes hk
  refine Sy.seq ?_
  refine cutC [(0,ptr gc),(1,.pointer (some ⟨gx,f,none⟩))] (CRS gc gr gx tx (A++([Value.int .i64 x1]++(([Value.bool false]++(Z32++lPT ⟨0,0,false⟩))++(([Value.bool false]++([Value.int .u64 0]++lPT ⟨0,0,false⟩))++([Value.slice none 0 0]++([Value.slice none 0 0]++([Value.slice none 0 0]++([Value.slice none 0 0]++(Z))))))))) sl1 s1.e (R++N1)) ?_ ?_
  ·clear a1 n1 o1 A1 k1 k2
   rcases hk with rfl | rfl | rfl | rfl
   ·refine Sy.block<|Sy.block<|Sy.block<|Sy.block<|Sy.seq<|Sy.seq<|sC ?_
    refine sP (.bool true)<|sp rfl ?_
    refine sG<|sT<|Sy.exit<|Sy.then_exit<|Sy.then_exit<|Sy.in_exit<|Sy.in_<|Sy.in_<|Sy.in_ ?_
    exact meet (all_cons kR (all_cons kR all_nil)) (λ_ h=>h)
   ·refine Sy.block<|Sy.block<|Sy.block<|Sy.block<|Sy.seq<|Sy.seq<|sC ?_
    refine sP (.bool false)<|sp rfl ?_
    refine sG<|sU<|Sy.skip<|Sy.then_<|Sy.seq<|sC ?_
    refine sP (.bool true)<|sp rfl ?_
    refine sG<|sT<|Sy.exit<|Sy.then_exit<|Sy.then_exit ?_
    refine Sy.in_pass (by decide) ?_
    refine Sy.in_exit<|Sy.in_<|Sy.in_ ?_
    exact meet (all_cons kR (all_cons kR all_nil)) (λ_ h=>h)
   ·refine Sy.block<|Sy.block<|Sy.block<|Sy.block<|Sy.seq<|Sy.seq<|sC ?_
    refine sP (.bool false)<|sp rfl ?_
    refine sG<|sU<|Sy.skip<|Sy.then_<|Sy.seq<|sC ?_
    refine sP (.bool false)<|sp rfl ?_
    refine sG<|sU<|Sy.skip<|Sy.then_<|Sy.seq<|sC ?_
    refine sP (.bool true)<|sp rfl ?_
    refine sG<|sT<|Sy.exit<|Sy.then_exit<|Sy.then_exit ?_
    refine Sy.in_pass (by decide) ?_
    refine Sy.in_pass (by decide) ?_
    refine Sy.in_exit<|Sy.in_ ?_
    exact meet (all_cons kR (all_cons kR all_nil)) (λ_ h=>h)
   ·refine Sy.block<|Sy.block<|Sy.block<|Sy.block<|Sy.seq<|Sy.seq<|sC ?_
    refine sP (.bool false)<|sp rfl ?_
    refine sG<|sU<|Sy.skip<|Sy.then_<|Sy.seq<|sC ?_
    refine sP (.bool false)<|sp rfl ?_
    refine sG<|sU<|Sy.skip<|Sy.then_<|Sy.seq<|sC ?_
    refine sP (.bool false)<|sp rfl ?_
    refine sG<|sU<|Sy.skip<|Sy.then_<|sC ?_
    refine sP (.bool true)<|sp rfl ?_
    refine sG<|sT<|Sy.exit<|Sy.then_exit ?_
    refine Sy.in_pass (by decide) ?_
    refine Sy.in_pass (by decide) ?_
    refine Sy.in_pass (by decide) ?_
    refine Sy.in_exit ?_
    exact meet (all_cons kR (all_cons kR all_nil)) (λ_ h=>h)
  refine Sy.then_<|Sy.seq<|sC ?_
  refine sp rfl<|sp rfl<|sp rfl<|sP (.pointer (some ⟨gx,f+1,none⟩)) ?_
  refine Sy.callT (λw hw=>tag_r w0.inn gc gr gx (f+1) tx (A++[Value.int .i64 x1]) (([Value.bool false]++([Value.int .u64 0]++lPT ⟨0,0,false⟩))++([Value.slice none 0 0]++([Value.slice none 0 0]++([Value.slice none 0 0]++([Value.slice none 0 0]++(Z)))))) sl1 s1 (R++N1) S (λb h=>List.mem_append_left _ (hS b h)) A1 e1 (Nat.le_trans g1 hl) y1 w (by have e:A++[Value.int .i64 x1]++(([Value.bool false]++(Z32++lPT ⟨0,0,false⟩))++(([Value.bool false]++([Value.int .u64 0]++lPT ⟨0,0,false⟩))++([Value.slice none 0 0]++([Value.slice none 0 0]++([Value.slice none 0 0]++([Value.slice none 0 0]++(Z)))))))=A++([Value.int .i64 x1]++(([Value.bool false]++(Z32++lPT ⟨0,0,false⟩))++(([Value.bool false]++([Value.int .u64 0]++lPT ⟨0,0,false⟩))++([Value.slice none 0 0]++([Value.slice none 0 0]++([Value.slice none 0 0]++([Value.slice none 0 0]++(Z)))))))):=List.append_assoc ..; rw [e]; exact hw)) (λu M hM=>?_)
  obtain ⟨x2,s2,sl2,cs2,N2,a2,n2,o2,⟨rfl,r2⟩,e2,h2,y2,rfl⟩:=hM
  have g2:s2.rest.length≤s.rest.length:=Nat.le_trans h2 g1
  have A2:(A++[Value.int .i64 x1]++(cTG x2)).length=f+43:=by rw [List.length_append,A1,n2]
  refine sA ?_
  refine sp rfl<|sp rfl<|sp rfl<|sP (.pointer (some ⟨gx,f+43,none⟩)) ?_
  refine Sy.callT (λw hw=>amount_r w0.inn gc gr gx (f+43) tx (A++[Value.int .i64 x1]++(cTG x2)) ([Value.slice none 0 0]++([Value.slice none 0 0]++([Value.slice none 0 0]++([Value.slice none 0 0]++(Z))))) sl2 s2 (R++N1++N2) S (λb h=>List.mem_append_left _ (List.mem_append_left _ (hS b h))) A2 e2 (Nat.le_trans g2 hl) y2 w (by have e:A++[Value.int .i64 x1]++(cTG x2)++(([Value.bool false]++([Value.int .u64 0]++lPT ⟨0,0,false⟩))++([Value.slice none 0 0]++([Value.slice none 0 0]++([Value.slice none 0 0]++([Value.slice none 0 0]++(Z))))))=A++[Value.int .i64 x1]++(cTG x2++(([Value.bool false]++([Value.int .u64 0]++lPT ⟨0,0,false⟩))++([Value.slice none 0 0]++([Value.slice none 0 0]++([Value.slice none 0 0]++([Value.slice none 0 0]++(Z))))))):=List.append_assoc ..; rw [e]; exact hw)) (λu M hM=>?_)
  obtain ⟨x3,s3,sl3,cs3,N3,a3,n3,o3,⟨rfl,r3⟩,e3,h3,y3,rfl⟩:=hM
  have g3:s3.rest.length≤s.rest.length:=Nat.le_trans h3 g2
  have A3:(A++[Value.int .i64 x1]++(cTG x2)++(cAM x3)).length=f+54:=by rw [List.length_append,A2,n3]
  refine sA ?_
  refine sp rfl<|sp rfl<|sp rfl<|sP (.pointer (some ⟨gx,f+54,none⟩)) ?_
  refine Sy.callT (λw hw=>text_r 6000 (by decide) w0.inn gc gr gx (f+54) tx (A++[Value.int .i64 x1]++(cTG x2)++(cAM x3)) ([Value.slice none 0 0]++([Value.slice none 0 0]++([Value.slice none 0 0]++(Z)))) sl3 s3 (R++N1++N2++N3) S (λb h=>List.mem_append_left _ (List.mem_append_left _ (List.mem_append_left _ (hS b h)))) A3 e3 (Nat.le_trans g3 hl) y3 w (by have e:A++[Value.int .i64 x1]++(cTG x2)++(cAM x3)++([Value.slice none 0 0]++([Value.slice none 0 0]++([Value.slice none 0 0]++([Value.slice none 0 0]++(Z)))))=A++[Value.int .i64 x1]++(cTG x2)++(cAM x3++([Value.slice none 0 0]++([Value.slice none 0 0]++([Value.slice none 0 0]++([Value.slice none 0 0]++(Z)))))):=List.append_assoc ..; rw [e]; exact hw)) (λu M hM=>?_)
  obtain ⟨x4,s4,sl4,cs4,N4,a4,n4,o4,⟨v4,rfl,r4⟩,e4,h4,y4,rfl⟩:=hM
  have g4:s4.rest.length≤s.rest.length:=Nat.le_trans h4 g3
  have A4:(A++[Value.int .i64 x1]++(cTG x2)++(cAM x3)++[v4]).length=f+55:=by rw [List.length_append,A3,n4]
  refine sA ?_
  refine sp rfl<|sp rfl<|sp rfl<|sP (.pointer (some ⟨gx,f+55,none⟩)) ?_
  refine Sy.callT (λw hw=>text_r 6000 (by decide) w0.inn gc gr gx (f+55) tx (A++[Value.int .i64 x1]++(cTG x2)++(cAM x3)++[v4]) ([Value.slice none 0 0]++([Value.slice none 0 0]++(Z))) sl4 s4 (R++N1++N2++N3++N4) S (λb h=>List.mem_append_left _ (List.mem_append_left _ (List.mem_append_left _ (List.mem_append_left _ (hS b h))))) A4 e4 (Nat.le_trans g4 hl) y4 w (by have e:A++[Value.int .i64 x1]++(cTG x2)++(cAM x3)++[v4]++([Value.slice none 0 0]++([Value.slice none 0 0]++([Value.slice none 0 0]++(Z))))=A++[Value.int .i64 x1]++(cTG x2)++(cAM x3)++([v4]++([Value.slice none 0 0]++([Value.slice none 0 0]++([Value.slice none 0 0]++(Z))))):=List.append_assoc ..; rw [e]; exact hw)) (λu M hM=>?_)
  obtain ⟨x5,s5,sl5,cs5,N5,a5,n5,o5,⟨v5,rfl,r5⟩,e5,h5,y5,rfl⟩:=hM
  have g5:s5.rest.length≤s.rest.length:=Nat.le_trans h5 g4
  have A5:(A++[Value.int .i64 x1]++(cTG x2)++(cAM x3)++[v4]++[v5]).length=f+56:=by rw [List.length_append,A4,n5]
  refine sA ?_
  refine sp rfl<|sp rfl<|sp rfl<|sP (.pointer (some ⟨gx,f+56,none⟩)) ?_
  refine Sy.callT (λw hw=>text_r 128 (by decide) w0.inn gc gr gx (f+56) tx (A++[Value.int .i64 x1]++(cTG x2)++(cAM x3)++[v4]++[v5]) ([Value.slice none 0 0]++(Z)) sl5 s5 (R++N1++N2++N3++N4++N5) S (λb h=>List.mem_append_left _ (List.mem_append_left _ (List.mem_append_left _ (List.mem_append_left _ (List.mem_append_left _ (hS b h)))))) A5 e5 (Nat.le_trans g5 hl) y5 w (by have e:A++[Value.int .i64 x1]++(cTG x2)++(cAM x3)++[v4]++[v5]++([Value.slice none 0 0]++([Value.slice none 0 0]++(Z)))=A++[Value.int .i64 x1]++(cTG x2)++(cAM x3)++[v4]++([v5]++([Value.slice none 0 0]++([Value.slice none 0 0]++(Z)))):=List.append_assoc ..; rw [e]; exact hw)) (λu M hM=>?_)
  obtain ⟨x6,s6,sl6,cs6,N6,a6,n6,o6,⟨v6,rfl,r6⟩,e6,h6,y6,rfl⟩:=hM
  have g6:s6.rest.length≤s.rest.length:=Nat.le_trans h6 g5
  have A6:(A++[Value.int .i64 x1]++(cTG x2)++(cAM x3)++[v4]++[v5]++[v6]).length=f+57:=by rw [List.length_append,A5,n6]
  refine Sy.nil<|Sy.then_<|Sy.region ?_
  refine sp rfl<|sp rfl<|sp rfl<|sP (.pointer (some ⟨gx,f+57,none⟩)) ?_
  refine Sy.callT (λw hw=>text_r 256 (by decide) w0.inn gc gr gx (f+57) tx (A++[Value.int .i64 x1]++(cTG x2)++(cAM x3)++[v4]++[v5]++[v6]) (Z) sl6 s6 (R++N1++N2++N3++N4++N5++N6) S (λb h=>List.mem_append_left _ (List.mem_append_left _ (List.mem_append_left _ (List.mem_append_left _ (List.mem_append_left _ (List.mem_append_left _ (hS b h))))))) A6 e6 (Nat.le_trans g6 hl) y6 w (by have e:A++[Value.int .i64 x1]++(cTG x2)++(cAM x3)++[v4]++[v5]++[v6]++([Value.slice none 0 0]++(Z))=A++[Value.int .i64 x1]++(cTG x2)++(cAM x3)++[v4]++[v5]++([v6]++([Value.slice none 0 0]++(Z))):=List.append_assoc ..; rw [e]; exact hw)) (λu M hM=>?_)
  obtain ⟨x7,s7,sl7,cs7,N7,a7,n7,o7,⟨v7,rfl,r7⟩,e7,h7,y7,rfl⟩:=hM
  have g7:s7.rest.length≤s.rest.length:=Nat.le_trans h7 g6
  have A7:(A++[Value.int .i64 x1]++(cTG x2)++(cAM x3)++[v4]++[v5]++[v6]++[v7]).length=f+58:=by rw [List.length_append,A6,n7]
  refine Sy.nil<|Sy.then_<|Sy.exit ?_
  refine Sy.in_pass (by decide) ?_
  refine Sy.then_exit<|Sy.in_exit ?_
  have hAf:After rdOU s ⟨x1,x2,x3,x4,x5,x6,x7⟩ s7:=a1.bind (After.mustY k1 (a2.bind (a3.bind (a4.bind (a5.bind (a6.bind (a7.bind (After.ret _ _))))))))
  have hLn:([Value.int .i64 x1]++(cTG x2++(cAM x3++([v4]++([v5]++([v6]++([v7]))))))).length=58:=by simp only [List.length_append,n2,n3]; rfl
  have hOn:∀ u∈([Value.int .i64 x1]++(cTG x2++(cAM x3++([v4]++([v5]++([v6]++([v7]))))))),u.oneCell'=true:=ones_app o1 (ones_app o2 (ones_app o3 (ones_app o4 (ones_app o5 (ones_app o6 o7)))))
  have hRp:repOU (rdB (N1++(N2++(N3++(N4++(N5++(N6++N7))))))) ([Value.int .i64 x1]++(cTG x2++(cAM x3++([v4]++([v5]++([v6]++([v7]))))))) ⟨x1,x2,x3,x4,x5,x6,x7⟩:=⟨v4,v5,v6,v7,rfl,r2,r3,r4.le (rdB_le λb h=>by simp [h]),r5.le (rdB_le λb h=>by simp [h]),r6.le (rdB_le λb h=>by simp [h]),r7.le (rdB_le λb h=>by simp [h])⟩
  exact Sy.retT0 rfl (CRS gc gr gx tx (A++(([Value.int .i64 x1]++(cTG x2++(cAM x3++([v4]++([v5]++([v6]++([v7])))))))++Z)) sl7 s7.e (R++(N1++(N2++(N3++(N4++(N5++(N6++N7)))))))) (λ_ h=>by simpa only [List.append_assoc,List.cons_append,List.nil_append] using h) (λ_=>⟨_,s7,sl7,_,_,hAf,hLn,hOn,hRp,e7,g7,y7,rfl⟩)
 refine Sy.seq<|Sy.block<|Sy.block<|Sy.block<|Sy.block<|Sy.seq<|Sy.seq<|sC ?_
 refine sS (.bool false) (Quiet.pure (exec_int .eql _ _ _ .i64 _ _ _ rfl rfl rfl (int_eql _ _ _ _ _ (decide_eq_false (λe=>hk (by simp [e]))))))<|sp rfl ?_
 refine sG<|sU<|Sy.skip<|Sy.then_<|Sy.seq<|sC ?_
 refine sS (.bool false) (Quiet.pure (exec_int .eql _ _ _ .i64 _ _ _ rfl rfl rfl (int_eql _ _ _ _ _ (decide_eq_false (λe=>hk (by simp [e]))))))<|sp rfl ?_
 refine sG<|sU<|Sy.skip<|Sy.then_<|Sy.seq<|sC ?_
 refine sS (.bool false) (Quiet.pure (exec_int .eql _ _ _ .i64 _ _ _ rfl rfl rfl (int_eql _ _ _ _ _ (decide_eq_false (λe=>hk (by simp [e]))))))<|sp rfl ?_
 refine sG<|sU<|Sy.skip<|Sy.then_<|sC ?_
 refine sS (.bool false) (Quiet.pure (exec_int .eql _ _ _ .i64 _ _ _ rfl rfl rfl (int_eql _ _ _ _ _ (decide_eq_false (λe=>hk (by simp [e]))))))<|sp rfl ?_
 refine sG<|sU<|Sy.skip<|Sy.then_<|Sy.exit ?_
 refine Sy.in_pass (by decide) ?_
 refine Sy.in_pass (by decide) ?_
 refine Sy.in_pass (by decide) ?_
 refine Sy.in_pass (by decide) ?_
 refine Sy.then_exit<|Sy.in_exit<|sB ?_
 refine sp rfl ?_
 have p5:(CRS gc gr gx tx (A++([Value.int .i64 x1]++(([Value.bool false]++(Z32++lPT ⟨0,0,false⟩))++(([Value.bool false]++([Value.int .u64 0]++lPT ⟨0,0,false⟩))++([Value.slice none 0 0]++([Value.slice none 0 0]++([Value.slice none 0 0]++([Value.slice none 0 0]++(Z))))))))) sl1 s1.e (R++N1)).Perm (CRN gc gr sl1 s1.e ((gx,tx,(A++([Value.int .i64 x1]++(([Value.bool false]++(Z32++lPT ⟨0,0,false⟩))++(([Value.bool false]++([Value.int .u64 0]++lPT ⟨0,0,false⟩))++([Value.slice none 0 0]++([Value.slice none 0 0]++([Value.slice none 0 0]++([Value.slice none 0 0]++(Z))))))))).toArray)::(R++N1))):=swap23
 refine Sy.permS p5 ?_
 refine Sy.callT (λw hw=>must_r w0.inn gc gr sl1 s1.e e1 ((gx,tx,(A++([Value.int .i64 x1]++(([Value.bool false]++(Z32++lPT ⟨0,0,false⟩))++(([Value.bool false]++([Value.int .u64 0]++lPT ⟨0,0,false⟩))++([Value.slice none 0 0]++([Value.slice none 0 0]++([Value.slice none 0 0]++([Value.slice none 0 0]++(Z))))))))).toArray)::(R++N1)) false w hw) (λu M hM=>?_)
 subst hM
 obtain ⟨e2,he2⟩:∃ e2,e2=if false=true then s1.e else if s1.e=0 then 120 else s1.e:=⟨_,rfl⟩
 rw [← he2]
 rw [if_neg (by decide)] at he2
 have he3:e2≠0:=by rw [he2]; split <;> omega
 have he4:e2≤200:=by rw [he2]; split <;> omega
 refine sG<|Sy.exit<|Sy.in_exit ?_
 have p6:(CRN gc gr sl1 e2 ((gx,tx,(A++([Value.int .i64 x1]++(([Value.bool false]++(Z32++lPT ⟨0,0,false⟩))++(([Value.bool false]++([Value.int .u64 0]++lPT ⟨0,0,false⟩))++([Value.slice none 0 0]++([Value.slice none 0 0]++([Value.slice none 0 0]++([Value.slice none 0 0]++(Z))))))))).toArray)::(R++N1))).Perm (CRS gc gr gx tx (A++([Value.int .i64 x1]++(([Value.bool false]++(Z32++lPT ⟨0,0,false⟩))++(([Value.bool false]++([Value.int .u64 0]++lPT ⟨0,0,false⟩))++([Value.slice none 0 0]++([Value.slice none 0 0]++([Value.slice none 0 0]++([Value.slice none 0 0]++(Z))))))))) sl1 e2 (R++N1)):=swap23
 have hno:okK x1=false:=okK_of hk
 have hAf:After rdOU s ⟨x1,⟨false,z32,⟨0,0,false⟩⟩,⟨false,0,⟨0,0,false⟩⟩,[],[],[],[]⟩ ⟨s1.rest,e2⟩:=a1.bind (by rw [hno]; exact After.mustX _ _ he3)
 have hLn:([Value.int .i64 x1]++(([Value.bool false]++(Z32++lPT ⟨0,0,false⟩))++(([Value.bool false]++([Value.int .u64 0]++lPT ⟨0,0,false⟩))++([Value.slice none 0 0]++([Value.slice none 0 0]++([Value.slice none 0 0]++([Value.slice none 0 0]))))))).length=58:=rfl
 have hOn:∀ u∈([Value.int .i64 x1]++(([Value.bool false]++(Z32++lPT ⟨0,0,false⟩))++(([Value.bool false]++([Value.int .u64 0]++lPT ⟨0,0,false⟩))++([Value.slice none 0 0]++([Value.slice none 0 0]++([Value.slice none 0 0]++([Value.slice none 0 0]))))))),u.oneCell'=true:=ones_app o1 (ones_app (ones_app (λu hu=>by rw [List.mem_singleton.1 hu]; rfl) (ones_app (ones_bW z32) (lPT_one _))) (ones_app (ones_app (λu hu=>by rw [List.mem_singleton.1 hu]; rfl) (ones_app (λu hu=>by rw [List.mem_singleton.1 hu]; rfl) (lPT_one _))) (ones_app one_ni (ones_app one_ni (ones_app one_ni one_ni)))))
 have hRp:repOU (rdB N1) ([Value.int .i64 x1]++(([Value.bool false]++(Z32++lPT ⟨0,0,false⟩))++(([Value.bool false]++([Value.int .u64 0]++lPT ⟨0,0,false⟩))++([Value.slice none 0 0]++([Value.slice none 0 0]++([Value.slice none 0 0]++([Value.slice none 0 0]))))))) ⟨x1,⟨false,z32,⟨0,0,false⟩⟩,⟨false,0,⟨0,0,false⟩⟩,[],[],[],[]⟩:=⟨.slice none 0 0,.slice none 0 0,.slice none 0 0,.slice none 0 0,rfl,⟨rfl,(show 0<Cu.K4 by decide),(show 0<Cu.K4 by decide)⟩,⟨(show (0:Nat)<18446744073709551616 by decide),(show 0<Cu.K4 by decide),(show 0<Cu.K4 by decide)⟩,BytR.nil _,BytR.nil _,BytR.nil _,BytR.nil _⟩
 have hcs:A++(([Value.int .i64 x1]++(([Value.bool false]++(Z32++lPT ⟨0,0,false⟩))++(([Value.bool false]++([Value.int .u64 0]++lPT ⟨0,0,false⟩))++([Value.slice none 0 0]++([Value.slice none 0 0]++([Value.slice none 0 0]++([Value.slice none 0 0])))))))++Z)=A++([Value.int .i64 x1]++(([Value.bool false]++(Z32++lPT ⟨0,0,false⟩))++(([Value.bool false]++([Value.int .u64 0]++lPT ⟨0,0,false⟩))++([Value.slice none 0 0]++([Value.slice none 0 0]++([Value.slice none 0 0]++([Value.slice none 0 0]++(Z)))))))):=by simp only [List.append_assoc]
 exact Sy.retT0 rfl (CRS gc gr gx tx (A++(([Value.int .i64 x1]++(([Value.bool false]++(Z32++lPT ⟨0,0,false⟩))++(([Value.bool false]++([Value.int .u64 0]++lPT ⟨0,0,false⟩))++([Value.slice none 0 0]++([Value.slice none 0 0]++([Value.slice none 0 0]++([Value.slice none 0 0])))))))++Z)) sl1 e2 (R++N1)) (λ_ h=>by rw [hcs]; exact h.perm p6) (λ_=>⟨_,⟨s1.rest,e2⟩,sl1,_,N1,hAf,hLn,hOn,hRp,he4,h1,y1,rfl⟩)
theorem oneOU {C:Rdr} {cs:List Value} {t:MOu} (h:repOU C cs t):∀ u∈cs,u.oneCell'=true:=by
 obtain ⟨vr,vs,vn,vc,rfl,_,_,h1,h2,h3,h4⟩:=h
 exact ones_app (λu hu=>by rw [List.mem_singleton.1 hu]; rfl) (ones_app (ones_app (λu hu=>by rw [List.mem_singleton.1 hu]; rfl) (ones_app (ones_bW _) (lPT_one _))) (ones_app (ones_app (λu hu=>by rw [List.mem_singleton.1 hu]; rfl) (ones_app (λu hu=>by rw [List.mem_singleton.1 hu]; rfl) (lPT_one _))) (ones_app (λu hu=>by rw [List.mem_singleton.1 hu]; exact h1.cells.2) (ones_app (λu hu=>by rw [List.mem_singleton.1 hu]; exact h2.cells.2) (ones_app (λu hu=>by rw [List.mem_singleton.1 hu]; exact h3.cells.2) (λu hu=>by rw [List.mem_singleton.1 hu]; exact h4.cells.2))))))
end Wr
end
section
namespace Wr
open Go.RowKit Sy
set_option maxRecDepth 100000
set_option maxHeartbeats 4000000
theorem write_out {α:Type} {rep:Rdr→List Value→α→Prop} {ok:α→Bool} {enc:α→Byt} {wt:α→Nat} (hm:Mono rep) (hp:PutO 46 58 rep ok enc wt) (w:World) (cs:List Value) (x:α) (hx:rep (rdW w) cs x) (hl:cs.length=58) (hwt:wt x≤70368744170000) :
  Calls Tryz.prog 47 #[.agg cs.toArray,.func (.func 46) #[] #[]] w (GetsN w (BytE (ok x) (enc x))):=by
 refine Sy.enter (args:=[.agg cs.toArray,.func (.func 46) #[] #[]]) Tryz.func47 rfl kL ?_
 refine sC ?_
 refine sM 63 cs.toArray (λgx=>?_) kR (λw=>run_boxR rfl rfl (by kernel_rfl) hl w)
 refine sP (.slice none 0 0)<|sP (.int .i64 0) ?_
 refine sA ?_
 refine Sy.callN kR 57 #[] kF _ (λw _=>new_any w) (λv M hM=>?_)
 obtain ⟨gw,rfl,rfl⟩:=hM
 refine sP (.agg #[ptr gw,.pointer none,.bool false])<|sM 134 #[ptr gw,.pointer none,.bool false] (λgc=>?_)
 refine sp rfl ?_
 refine sA ?_
 refine Sy.permS (M:=CWS gc gw false nilS [(gx,63,cs.toArray)]) (Sy.perm_at [2,1,0] (by kernel_rfl) (by rfl)) ?_
 refine sp rfl<|sp rfl ?_
 refine Sy.callT (λw' hw=>hp (Base.of w) gc gw gx 0 false nilS [(gx,63,cs.toArray)] [] cs x (hm rdW_base hx) hl (ownX (List.mem_singleton.2 rfl)) BS.nil (by show 0+_≤_; omega) w' hw) (λv M hM=>?_)
 obtain ⟨s,bad,b,q1,q2,rfl⟩:=hM
 have hbl:b.length≤wt x:=by have:=q1.len; simpa using this
 refine sG<|Sy.seq<|sC ?_
 refine sp rfl<|sp rfl<|sP (.pointer (some ⟨gc,2,none⟩))<|sS (.bool bad) (qc 0 2 rfl rfl Tryz.underlying4) ?_
 refine sG ?_
 cases bad
 ·have hok:ok x=true:=by
   have e:=q1.bad
   cases h:ok x with
   | true=>rfl
   | false=>rw [h] at e; cases e
  obtain rfl:b=enc x:=by have:=q1.bytes rfl; simpa using this
  refine sU<|Sy.skip<|sB ?_
  refine sp rfl<|sp rfl<|sP (.pointer (some ⟨gc,0,none⟩))<|sS (ptr gw) (qc 0 0 rfl rfl Tryz.underlying130) ?_
  refine Sy.callT (λw' hw=>bytes_any (Base.of w) gw s ((gc,134,#[ptr gw,.pointer none,.bool false])::[(gx,63,cs.toArray)]) (enc x) q2 (by omega) w' (hw.perm permCW)) (λv M hM=>?_)
  obtain ⟨N,hN,rfl⟩:=hM
  refine sp rfl<|sP (.int .i64 0) ?_
  refine sG<|Sy.ret ?_
  exact Sy.retGM2 N rfl (.inl (show _=_ by kernel_rfl)) (.inl (show _=_ by kernel_rfl)) (λ_ h=>h.less (List.sublist_append_right _ _)) (.inl ⟨hok,v,rfl,hN⟩)
 ·have hok:ok x=false:=by
   have e:=q1.bad
   cases h:ok x with
   | false=>rfl
   | true=>rw [h] at e; cases e
  refine sT<|sC ?_
  refine sP (.slice none 0 0)<|sP (.int .i64 120) ?_
  refine sG<|Sy.ret<|Sy.then_ret ?_
  exact Sy.retGM2 [] rfl (.inl (show _=_ by kernel_rfl)) (.inl (show _=_ by kernel_rfl)) (λ_ h=>h.none) (.inr ⟨hok,rfl,rfl⟩)
theorem ex_out {α:Type} {rep:Rdr→List Value→α→Prop} {ok:α→Bool} {enc:α→Byt} {wt:α→Nat} (hm:Mono rep) (hp:PutO 46 58 rep ok enc wt) (w:World) (cs:List Value) (x:α) (hx:rep (rdW w) cs x) (hl:cs.length=58) (hwt:wt x≤70368744170000) :
  Calls Tryz.prog 20 #[.agg cs.toArray] w (GetsN w (BytE (ok x) (enc x))):=by
 refine Sy.enter (args:=[.agg cs.toArray]) Tryz.func20 rfl kL ?_
 refine sC ?_
 refine sM 63 cs.toArray (λgx=>?_) kR (λw=>run_boxR rfl rfl (by kernel_rfl) hl w)
 refine sP (.slice none 0 0)<|sP (.int .i64 0) ?_
 refine sA ?_
 refine sS (.agg cs.toArray) (rowC (R:=[(gx,63,cs.toArray)]) (memX (List.mem_singleton.2 rfl)) (λ_ h=>h) hl rfl Tryz.underlying63) ?_
 refine Sy.callN kR 47 #[.agg cs.toArray,.func (.func 46) #[] #[]] kF (BytE (ok x) (enc x)) (λw' hw=>write_out (rep:=rep) hm hp w' cs x (hm (λg o u h=>rdC_world (R:=[]) hw (λ_ h=>by cases h) g o u (.inl h)) hx) hl hwt) (λv M hM=>?_)
 have hv:∃ a e:Value,v=.tuple #[a,e]:=by
  rcases hM with ⟨_,u,rfl,_⟩ | ⟨_,rfl,_⟩ <;> exact ⟨_,_,rfl⟩
 obtain ⟨a,e,rfl⟩:=hv
 refine sp rfl<|sp rfl<|sp rfl<|sp rfl ?_
 refine sG<|Sy.ret ?_
 exact Sy.retGM2 M rfl (.inl (show _=_ by kernel_rfl)) (.inl (show _=_ by kernel_rfl)) (λ_ h=>h.less (List.sublist_append_right _ _)) hM
theorem read_out {α:Type} {rep:Rdr→List Value→α→Prop} {p:Ps α} (hm:Mono rep) (hp:GetC 46 58 ([Value.int .i64 0]++(([Value.bool false]++(Z32++lPT ⟨0,0,false⟩))++(([Value.bool false]++([Value.int .u64 0]++lPT ⟨0,0,false⟩))++([Value.slice none 0 0]++([Value.slice none 0 0]++([Value.slice none 0 0]++([Value.slice none 0 0]))))))) rep p) (w:World) (v:Value) (b:Byt) (hv:BytR (rdW w) v b) (hl:b.length≤70368744177664) :
  Calls Tryz.prog 45 #[v,.func (.func 46) #[] #[]] w (GetsN w (RdE 58 ([Value.int .i64 0]++(([Value.bool false]++(Z32++lPT ⟨0,0,false⟩))++(([Value.bool false]++([Value.int .u64 0]++lPT ⟨0,0,false⟩))++([Value.slice none 0 0]++([Value.slice none 0 0]++([Value.slice none 0 0]++([Value.slice none 0 0]))))))) rep (allP p b))):=by
 refine Sy.enter (args:=[v,.func (.func 46) #[] #[]]) Tryz.func45 rfl kL ?_
 refine sC ?_
 refine sM 63 ([Value.int .i64 0]++(([Value.bool false]++(Z32++lPT ⟨0,0,false⟩))++(([Value.bool false]++([Value.int .u64 0]++lPT ⟨0,0,false⟩))++([Value.slice none 0 0]++([Value.slice none 0 0]++([Value.slice none 0 0]++([Value.slice none 0 0]))))))).toArray (λg4=>?_)
 refine sP (.int .i64 0) ?_
 refine sA ?_
 refine sM 63 ([Value.int .i64 0]++(([Value.bool false]++(Z32++lPT ⟨0,0,false⟩))++(([Value.bool false]++([Value.int .u64 0]++lPT ⟨0,0,false⟩))++([Value.slice none 0 0]++([Value.slice none 0 0]++([Value.slice none 0 0]++([Value.slice none 0 0]))))))).toArray (λg6=>?_)
 refine sM 63 ([Value.int .i64 0]++(([Value.bool false]++(Z32++lPT ⟨0,0,false⟩))++(([Value.bool false]++([Value.int .u64 0]++lPT ⟨0,0,false⟩))++([Value.slice none 0 0]++([Value.slice none 0 0]++([Value.slice none 0 0]++([Value.slice none 0 0]))))))).toArray (λg7=>?_)
 refine sA ?_
 refine sp rfl ?_
 refine Sy.callN kR 67 #[v] kF _ (λw' hw=>read_any w' v b (hv.at hw) hl) (λu M hM=>?_)
 obtain ⟨gr,sl,N0,hN0,rfl,rfl⟩:=hM
 refine sP (.agg #[.pointer none,ptr gr,.bool false])<|sM 134 #[.pointer none,ptr gr,.bool false] (λgc=>?_)
 refine Sy.permS (M:=CRS gc gr g6 63 ([]++(([Value.int .i64 0]++(([Value.bool false]++(Z32++lPT ⟨0,0,false⟩))++(([Value.bool false]++([Value.int .u64 0]++lPT ⟨0,0,false⟩))++([Value.slice none 0 0]++([Value.slice none 0 0]++([Value.slice none 0 0]++([Value.slice none 0 0])))))))++[])) sl 0 ((g4,63,([Value.int .i64 0]++(([Value.bool false]++(Z32++lPT ⟨0,0,false⟩))++(([Value.bool false]++([Value.int .u64 0]++lPT ⟨0,0,false⟩))++([Value.slice none 0 0]++([Value.slice none 0 0]++([Value.slice none 0 0]++([Value.slice none 0 0]))))))).toArray)::(g7,63,([Value.int .i64 0]++(([Value.bool false]++(Z32++lPT ⟨0,0,false⟩))++(([Value.bool false]++([Value.int .u64 0]++lPT ⟨0,0,false⟩))++([Value.slice none 0 0]++([Value.slice none 0 0]++([Value.slice none 0 0]++([Value.slice none 0 0]))))))).toArray)::N0)) (Sy.flat_perm (ls:=[[(g4,63,([Value.int .i64 0]++(([Value.bool false]++(Z32++lPT ⟨0,0,false⟩))++(([Value.bool false]++([Value.int .u64 0]++lPT ⟨0,0,false⟩))++([Value.slice none 0 0]++([Value.slice none 0 0]++([Value.slice none 0 0]++([Value.slice none 0 0]))))))).toArray)],[(g6,63,([Value.int .i64 0]++(([Value.bool false]++(Z32++lPT ⟨0,0,false⟩))++(([Value.bool false]++([Value.int .u64 0]++lPT ⟨0,0,false⟩))++([Value.slice none 0 0]++([Value.slice none 0 0]++([Value.slice none 0 0]++([Value.slice none 0 0]))))))).toArray)],[(g7,63,([Value.int .i64 0]++(([Value.bool false]++(Z32++lPT ⟨0,0,false⟩))++(([Value.bool false]++([Value.int .u64 0]++lPT ⟨0,0,false⟩))++([Value.slice none 0 0]++([Value.slice none 0 0]++([Value.slice none 0 0]++([Value.slice none 0 0]))))))).toArray)],[(gr,253,#[sl,.int .i64 0])],N0,[(gc,134,#[.pointer none,ptr gr,.bool false])]]) (ms:=[[(gc,134,#[.pointer none,ptr gr,.bool false])],[(g6,63,([Value.int .i64 0]++(([Value.bool false]++(Z32++lPT ⟨0,0,false⟩))++(([Value.bool false]++([Value.int .u64 0]++lPT ⟨0,0,false⟩))++([Value.slice none 0 0]++([Value.slice none 0 0]++([Value.slice none 0 0]++([Value.slice none 0 0]))))))).toArray)],[(gr,253,#[sl,.int .i64 0])],[(g4,63,([Value.int .i64 0]++(([Value.bool false]++(Z32++lPT ⟨0,0,false⟩))++(([Value.bool false]++([Value.int .u64 0]++lPT ⟨0,0,false⟩))++([Value.slice none 0 0]++([Value.slice none 0 0]++([Value.slice none 0 0]++([Value.slice none 0 0]))))))).toArray)],[(g7,63,([Value.int .i64 0]++(([Value.bool false]++(Z32++lPT ⟨0,0,false⟩))++(([Value.bool false]++([Value.int .u64 0]++lPT ⟨0,0,false⟩))++([Value.slice none 0 0]++([Value.slice none 0 0]++([Value.slice none 0 0]++([Value.slice none 0 0]))))))).toArray)],N0]) [5,1,3,0,2,4] (by kernel_rfl) (by rfl) (by simp) (by simp)) ?_
 refine sp rfl ?_
 refine sA ?_
 refine sp rfl<|sp rfl ?_
 refine Sy.callT (λw' hw=>hp (Base.of w) gc gr g6 0 63 [] [] sl ⟨b,0⟩ ((g4,63,([Value.int .i64 0]++(([Value.bool false]++(Z32++lPT ⟨0,0,false⟩))++(([Value.bool false]++([Value.int .u64 0]++lPT ⟨0,0,false⟩))++([Value.slice none 0 0]++([Value.slice none 0 0]++([Value.slice none 0 0]++([Value.slice none 0 0]))))))).toArray)::(g7,63,([Value.int .i64 0]++(([Value.bool false]++(Z32++lPT ⟨0,0,false⟩))++(([Value.bool false]++([Value.int .u64 0]++lPT ⟨0,0,false⟩))++([Value.slice none 0 0]++([Value.slice none 0 0]++([Value.slice none 0 0]++([Value.slice none 0 0]))))))).toArray)::N0) N0 (λx h=>List.mem_cons_of_mem _ (List.mem_cons_of_mem _ h)) rfl (Nat.zero_le _) hl (hN0.byt.le rdB_base) w' hw) (λu M hM=>?_)
 obtain ⟨x,s',sl',cs,N,q1,q2,q3,q4,q5,q6,q7,rfl⟩:=hM
 rw [List.append_nil]
 obtain ⟨o1,o2⟩:=all_of q1
 obtain ⟨e,hE⟩:∃ e,e=if s'.e=0∧0<s'.rest.length then 113 else s'.e:=⟨_,rfl⟩
 have hEl:e≤200:=by rw [hE]; split <;> omega
 refine sG<|Sy.seq<|sC ?_
 obtain ⟨b1,hb1⟩:∃ z:Bool,z=decide (e≠0):=⟨_,rfl⟩
 refine sp rfl<|sp rfl<|sP (.pointer (some ⟨gc,1,none⟩))<|sS (ptr gr) (qc 0 1 rfl rfl Tryz.underlying132)<|sS (.int .i64 (e:Int)) (qg (λw' hw=>by rw [hE]; exact end_any (Base.of w) gr sl' s' N0 q5 q7 (List.mem_cons_of_mem _ (List.mem_cons_of_mem _ (List.mem_cons_self ..))) w' hw))<|sS (.bool b1) (Quiet.pure (exec_int .neq _ _ _ .i64 _ _ _ rfl rfl rfl (int_neq _ _ _ _ _ (by rw [hb1]; exact decide_eq_decide.2 (by omega))))) ?_
 refine sG ?_
 cases b1
 ·have l1:e=0:=Decidable.of_not_not (of_decide_eq_false hb1.symm)
  have l2:s'.e=0∧s'.rest=[]:=by
   by_cases h:s'.e=0∧0<s'.rest.length
   ·rw [if_pos h] at hE; omega
   ·rw [if_neg h] at hE
    exact ⟨by omega,List.eq_nil_of_length_eq_zero (by omega)⟩
  refine sU<|Sy.skip<|sB ?_
  refine sS (.agg cs.toArray) (Quiet.mid 1 g6 0 58 63 63 cs cs _ _ rfl kR rfl Tryz.underlying63 rfl kR (by rw [List.drop_zero,List.take_of_length_le (by omega)]) (by omega))<|sw 3 rfl cs.toArray (Writes.row 63 cs 58 _ _ rfl kR kR kR q2 (by kernel_rfl) q3)<|sP (.int .i64 0) ?_
  refine sG<|Sy.ret ?_
  exact Sy.retGM2 N rfl (.inl (Sy.Res.cell (ty':=63) g4 3 cs.toArray _ (by kernel_rfl) rfl Tryz.underlying63 rfl (by rw [List.size_toArray,q2]; kernel_rfl) rfl)) (.inl (show _=_ by kernel_rfl)) (λ_ h=>h.less (List.sublist_append_right [(gc,134,#[.pointer none,ptr gr,.bool false]),(g6,63,cs.toArray),(gr,253,#[sl',.int .i64 (s'.e:Int)]),(g4,63,cs.toArray),(g7,63,([Value.int .i64 0]++(([Value.bool false]++(Z32++lPT ⟨0,0,false⟩))++(([Value.bool false]++([Value.int .u64 0]++lPT ⟨0,0,false⟩))++([Value.slice none 0 0]++([Value.slice none 0 0]++([Value.slice none 0 0]++([Value.slice none 0 0]))))))).toArray)] (N0++N) |> λh1=>(List.sublist_append_right N0 N).trans h1)) (.inl ⟨x,cs,o1 l2.1 l2.2,rfl,q2,q4⟩)
 ·have l1:e≠0:=of_decide_eq_true hb1.symm
  have l2:s'.e≠0∨s'.rest≠[]:=by
   by_cases h:s'.e=0∧0<s'.rest.length
   ·exact .inr (λe=>by rw [e] at h; exact absurd h.2 (by decide))
   ·rw [if_neg h] at hE; exact .inl (by omega)
  refine sT<|sC ?_
  refine sS (.agg ([Value.int .i64 0]++(([Value.bool false]++(Z32++lPT ⟨0,0,false⟩))++(([Value.bool false]++([Value.int .u64 0]++lPT ⟨0,0,false⟩))++([Value.slice none 0 0]++([Value.slice none 0 0]++([Value.slice none 0 0]++([Value.slice none 0 0]))))))).toArray) (qk 4 0 58 rfl rfl Tryz.underlying63)<|sw 3 rfl ([Value.int .i64 0]++(([Value.bool false]++(Z32++lPT ⟨0,0,false⟩))++(([Value.bool false]++([Value.int .u64 0]++lPT ⟨0,0,false⟩))++([Value.slice none 0 0]++([Value.slice none 0 0]++([Value.slice none 0 0]++([Value.slice none 0 0]))))))).toArray (wA rfl)<|sP (.int .i64 120) ?_
  refine sG<|Sy.ret<|Sy.then_ret ?_
  exact Sy.retGM2 [] rfl (.inl (Sy.Res.cell (ty':=63) g4 3 ([Value.int .i64 0]++(([Value.bool false]++(Z32++lPT ⟨0,0,false⟩))++(([Value.bool false]++([Value.int .u64 0]++lPT ⟨0,0,false⟩))++([Value.slice none 0 0]++([Value.slice none 0 0]++([Value.slice none 0 0]++([Value.slice none 0 0]))))))).toArray _ (by kernel_rfl) rfl Tryz.underlying63 rfl (by kernel_rfl) rfl)) (.inl (show _=_ by kernel_rfl)) (λ_ h=>h.none) (.inr ⟨o2 l2,rfl,rfl⟩)
theorem rdx_out {α:Type} {rep:Rdr→List Value→α→Prop} {p:Ps α} (hm:Mono rep) (hone:∀ {C:Rdr} {cs:List Value} {x:α},rep C cs x→∀ u∈cs,u.oneCell'=true) (hp:GetC 46 58 ([Value.int .i64 0]++(([Value.bool false]++(Z32++lPT ⟨0,0,false⟩))++(([Value.bool false]++([Value.int .u64 0]++lPT ⟨0,0,false⟩))++([Value.slice none 0 0]++([Value.slice none 0 0]++([Value.slice none 0 0]++([Value.slice none 0 0]))))))) rep p) (w:World) (v:Value) (b:Byt) (hv:BytR (rdW w) v b) (hl:b.length≤70368744177664) :
  Calls Tryz.prog 19 #[v] w (GetsN w (RdE 58 ([Value.int .i64 0]++(([Value.bool false]++(Z32++lPT ⟨0,0,false⟩))++(([Value.bool false]++([Value.int .u64 0]++lPT ⟨0,0,false⟩))++([Value.slice none 0 0]++([Value.slice none 0 0]++([Value.slice none 0 0]++([Value.slice none 0 0]))))))) rep (allP p b))):=by
 refine Sy.enter (args:=[v]) Tryz.func19 rfl kL ?_
 refine sC ?_
 refine sM 63 ([Value.int .i64 0]++(([Value.bool false]++(Z32++lPT ⟨0,0,false⟩))++(([Value.bool false]++([Value.int .u64 0]++lPT ⟨0,0,false⟩))++([Value.slice none 0 0]++([Value.slice none 0 0]++([Value.slice none 0 0]++([Value.slice none 0 0]))))))).toArray (λg2=>?_)
 refine sP (.int .i64 0) ?_
 refine sA ?_
 refine sp rfl ?_
 refine Sy.callN kR 45 #[v,.func (.func 46) #[] #[]] kF _ (λw' hw=>read_out (rep:=rep) (p:=p) hm hp w' v b (hv.at hw) hl) (λu M hM=>?_)
 rcases hM with ⟨x,cs,o1,rfl,q2,q4⟩ | ⟨o1,rfl,rfl⟩
 ·have q3:∀ u∈cs,u.oneCell'=true:=hone q4
  refine sp rfl<|sp rfl<|sw 0 rfl cs.toArray (Writes.row 63 cs 58 _ _ rfl kR kR kR q2 (by kernel_rfl) q3)<|sp rfl ?_
  refine sG<|Sy.ret ?_
  exact Sy.retGM2 M rfl (.inl (Sy.Res.cell (ty':=63) g2 0 cs.toArray _ (by kernel_rfl) rfl Tryz.underlying63 rfl (by rw [List.size_toArray,q2]; kernel_rfl) rfl)) (.inl (show _=_ by kernel_rfl)) (λ_ h=>h.less (List.sublist_cons_self _ _)) (.inl ⟨x,cs,o1,rfl,q2,q4⟩)
 ·refine sp rfl<|sp rfl<|sw 0 rfl ([Value.int .i64 0]++(([Value.bool false]++(Z32++lPT ⟨0,0,false⟩))++(([Value.bool false]++([Value.int .u64 0]++lPT ⟨0,0,false⟩))++([Value.slice none 0 0]++([Value.slice none 0 0]++([Value.slice none 0 0]++([Value.slice none 0 0]))))))).toArray (wA rfl)<|sp rfl ?_
  refine sG<|Sy.ret ?_
  exact Sy.retGM2 [] rfl (.inl (Sy.Res.cell (ty':=63) g2 0 ([Value.int .i64 0]++(([Value.bool false]++(Z32++lPT ⟨0,0,false⟩))++(([Value.bool false]++([Value.int .u64 0]++lPT ⟨0,0,false⟩))++([Value.slice none 0 0]++([Value.slice none 0 0]++([Value.slice none 0 0]++([Value.slice none 0 0]))))))).toArray _ (by kernel_rfl) rfl Tryz.underlying63 rfl (by kernel_rfl) rfl)) (.inl (show _=_ by kernel_rfl)) (λ_ h=>h.none) (.inr ⟨o1,rfl,rfl⟩)
end Wr
end
section
namespace Wr
open Go.RowKit Sy
set_option maxRecDepth 100000
set_option maxHeartbeats 4000000
section
variable {α:Type} {rep:Rdr→List Value→α→Prop} {ok:α→Bool} {enc:α→Byt} {wt:α→Nat}
theorem el_w_ous (hm:Mono rep) (hp:PutO 46 58 rep ok enc wt) (w0:Base) (gc gw g4 g7:Nat) (bad:Bool) (s:Slc) (R:Blocks) (b:Byt) (u:Value) (cs:List Value) (x:α) (h4:(g4,85,#[ptr gc])∈R) (h7:(g7,115,#[.func (.func 46) #[] #[]])∈R) (hx:rep (rdC w0 R) cs x) (hl:cs.length=58) (hb:BS s b) (hlen:b.length+wt x≤70368744170000) (w:World) (hw:St w0 w (CWS gc gw bad s R)) :
  Calls Tryz.prog 114 #[u,.agg cs.toArray,ptr g7,ptr g4] w (Turns w0 (WrC gc gw R (ok x) (enc x) (wt x) bad b)):=by
 refine Sy.enterT (args:=[u,.agg cs.toArray,ptr g7,ptr g4]) hw Tryz.func114 rfl kL ?_
 refine sC ?_
 refine sM 63 cs.toArray (λg5=>?_) kR (λw=>run_boxR rfl rfl (by kernel_rfl) hl w)
 refine Sy.permS (List.Perm.of_eq eqCW) ?_
 refine Sy.nil<|Sy.then_<|Sy.region ?_
 refine sS (.func (.func 46) #[] #[]) (cellC (R:=R++[(g5,63,cs.toArray)]) (mem1 (inA h7)) inCW rfl Tryz.underlying115)<|sS (ptr gc) (cellC (R:=R++[(g5,63,cs.toArray)]) (mem1 (inA h4)) inCW rfl Tryz.underlying85) ?_
 refine Sy.callT (λw hw=>hp w0.inn gc gw g5 0 bad s (R++[(g5,63,cs.toArray)]) b cs x (hm (rdC_le (λ_ h=>inA h)) hx) hl (ownX lastR) hb hlen w hw) (λv M hM=>?_)
 obtain ⟨s1,bad1,b1,h1,h2,rfl⟩:=hM
 refine Sy.nil ?_
 exact Sy.retT0 rfl (CWS gc gw bad1 s1 R) (λ_ h=>dropR h) (λ_=>⟨s1,bad1,b1,h1,h2,rfl⟩)
end
section
variable {α:Type} {rep:Rdr→List Value→α→Prop} {ok:α→Bool} {enc:α→Byt} {wt:α→Nat}
theorem put_w_ous (hm:Mono rep) (hp:PutO 46 58 rep ok enc wt) (w0:Base) (gc gw g4 g7:Nat) (bad:Bool) (s:Slc) (R:Blocks) (b:Byt) (v:Value) (l:List α) (h4:(g4,85,#[ptr gc])∈R) (h7:(g7,115,#[.func (.func 46) #[] #[]])∈R) (hv:LstR (rdC w0 R) 58 rep v l) (hb:BS s b) (hlen:b.length+(9+(l.map wt).sum)≤70368744170000) (w:World) (hw:St w0 w (CWS gc gw bad s R)) :
  Calls Tryz.prog 113 #[ptr gw,v,.func (.func 114) #[] #[ptr g7,ptr g4]] w (Turns w0 (WrC gc gw R (l.all ok) (varB l.length++l.flatMap enc) (9+(l.map wt).sum) bad b)):=by
 obtain ⟨A,n,cp,rfl,h2,h3,h4',h5⟩:=hv
 have hmx:n<9223372036854775808:=by simp only [maxLen] at h4'; omega
 refine Sy.enterT (args:=[ptr gw,.slice A n cp,.func (.func 114) #[] #[ptr g7,ptr g4]]) hw Tryz.func113 rfl kL ?_
 refine sC ?_
 refine sp rfl<|sp rfl<|sP (.int .i64 (n:Int))<|sS (.int .u64 (n:Int)) (Quiet.pure (λw=>conv_i6 w _ _ _ n (by omega) rfl rfl)) ?_
 refine Sy.callT (λw hw=>var_any w0.inn gw s ((gc,134,#[ptr gw,.pointer none,.bool bad])::R) b n (by omega) hb (by omega) w (hw.perm permCW)) (λu M hM=>?_)
 obtain ⟨s1,hs1,rfl⟩:=hM
 have hn9:=varB_len n
 refine Sy.permS permCW.symm ?_
 refine Sy.nil<|sB ?_
 refine sp rfl<|sP (.int .i64 (n:Int))<|sP (.int .i64 0) ?_
 refine sG<|Sy.block ?_
 have hw0:Wrote true (varB n) 9 bad b bad (b++varB n):=Wrote.raw _ _ _ hn9
 have hsum:∀ i,((l.take i).map wt).sum≤(l.map wt).sum:=λi=>by
  have e:=congrArg (λz=>(z.map wt).sum) (List.take_append_drop i l)
  simp only [List.map_append,List.sum_append] at e
  omega
 refine Sy.loopT (Y:=Slc×Bool×Byt) n (λi y=>[(0,ptr gw),(2,.func (.func 114) #[] #[ptr g7,ptr g4]),(13,.slice A n cp),(14,.int .i64 (n:Int)),(15,.int .i64 (i:Int))]) (λi y=>CWS gc gw y.2.1 y.1 R) (λi y=>Wrote ((l.take i).all ok) (varB n++(l.take i).flatMap enc) (9+((l.take i).map wt).sum) bad b y.2.1 y.2.2∧BS y.1 y.2.2) (s1,bad,b++varB n) ⟨by
  have e:Wrote ((l.take 0).all ok) (varB n++(l.take 0).flatMap enc) (9+((l.take 0).map wt).sum) bad b bad (b++varB n):=by
   rw [List.take_zero]
   simpa using hw0
  exact e,hs1⟩ (all_cons kR (all_cons kR (all_cons kR (all_cons kR (all_cons kR all_nil))))) (λ_ h=>h) (λi y hi hy=>?_)
 obtain ⟨sy,bady,by_⟩:=y
 obtain ⟨hy,hsy⟩:=hy
 dsimp only at hy hsy ⊢
 refine sC ?_
 obtain ⟨b2,hb2⟩:∃ z:Bool,z=decide (i<n):=⟨_,rfl⟩
 refine sS (.bool b2) (Quiet.pure (exec_int .lss _ _ _ .i64 _ _ _ rfl rfl rfl (int_lss _ _ _ _ _ (by rw [hb2]; exact decide_eq_decide.2 (by omega))))) ?_
 refine sG<|Sy.seq ?_
 cases b2
 case' false =>
  have l2:¬ i<n:=of_decide_eq_false hb2.symm
  obtain rfl:i=n:=by omega
  rw [List.take_of_length_le (by omega)] at hy
  refine sU<|Sy.exit<|Sy.then_exit<|Sy.then_exit<|Sy.in_exit ?_
  rw [h2]
  exact Sy.retT0 rfl (CWS gc gw bady sy R) (λ_ h=>h) (λ_=>⟨sy,bady,by_,hy,hsy,rfl⟩)
 have l2:i<n:=of_decide_eq_true hb2.symm
 obtain ⟨x,hx⟩:∃ x,l[i]? = some x:=⟨_,List.getElem?_eq_getElem (by omega)⟩
 obtain ⟨g,o,rfl,hq⟩:=h5 (by intro e; rw [e] at hx; cases hx)
 obtain ⟨cs,c1,c2,c3,c4⟩:=hq i x hx
 have htk:l.take (i+1)=l.take i++[x]:=by rw [List.take_add_one,hx]; rfl
 have hsi:=hsum (i+1)
 rw [htk] at hsi
 simp only [List.map_append,List.sum_append,List.map_cons,List.map_nil,List.sum_cons,List.sum_nil] at hsi
 refine sT<|Sy.skip<|Sy.then_<|Sy.seq<|Sy.block<|sC ?_
 refine sS (.pointer (some ⟨g,o+i*58,none⟩)) (Quiet.pure (exec_atO 24 _ _ _ (some ⟨g,o,none⟩) g o n cp i 58 .i64 rfl rfl rfl rfl Tryz.underlying24 kF l2))<|sS (.agg cs.toArray) (rowC (R:=R) c4 inCW c1 rfl Tryz.underlying63) ?_
 refine sM 63 ([Value.int .i64 0]++(([Value.bool false]++(Z32++lPT ⟨0,0,false⟩))++(([Value.bool false]++([Value.int .u64 0]++lPT ⟨0,0,false⟩))++([Value.slice none 0 0]++([Value.slice none 0 0]++([Value.slice none 0 0]++([Value.slice none 0 0]))))))).toArray (λg9=>?_)
 refine Sy.permS (List.Perm.of_eq eqCW) ?_
 refine Sy.permS (List.perm_append_comm (l₁:=CWS gc gw bady sy R) (l₂:=[(g9,63,([Value.int .i64 0]++(([Value.bool false]++(Z32++lPT ⟨0,0,false⟩))++(([Value.bool false]++([Value.int .u64 0]++lPT ⟨0,0,false⟩))++([Value.slice none 0 0]++([Value.slice none 0 0]++([Value.slice none 0 0]++([Value.slice none 0 0]))))))).toArray)]) |> λh=>(List.Perm.of_eq eqCW.symm).trans h) ?_
 refine sw 0 rfl cs.toArray (Writes.row 63 cs 58 _ _ rfl kR kR kR c1 (by kernel_rfl) c2) ?_
 refine Sy.permS ((List.perm_append_comm (l₁:=[(g9,63,cs.toArray)]) (l₂:=CWS gc gw bady sy R)).trans (List.Perm.of_eq eqCW)) ?_
 refine Sy.nil<|Sy.then_<|Sy.region ?_
 refine sp rfl<|sp rfl<|sS (.agg cs.toArray) (rowC (R:=R++[(g9,63,cs.toArray)]) (memX lastR) inCW c1 rfl Tryz.underlying63) ?_
 refine Sy.callT (λw hw=>el_w_ous (rep:=rep) (ok:=ok) (enc:=enc) (wt:=wt) hm hp w0.inn gc gw g4 g7 bady sy (R++[(g9,63,cs.toArray)]) by_ (ptr gw) cs x (inA h4) (inA h7) (hm (rdC_le (λ_ h=>inA h)) c3) c1 hsy (by have hyl:=hy.len; omega) w hw) (λv M hM=>?_)
 obtain ⟨s3,bad3,b3,q1,q2,rfl⟩:=hM
 refine Sy.nil<|Sy.in_<|Sy.then_<|Sy.region ?_
 refine sS (.int .i64 ((i+1:Nat):Int)) (Quiet.pure (exec_int .add _ _ _ .i64 _ _ _ rfl rfl rfl (int_add _ _ _ _ _ ((wrap_i64 (by omega) (by omega)).trans (by omega)))))<|sp rfl ?_
 refine Sy.nil ?_
 have hW:=hy.then_ q1
 have hW':Wrote ((l.take (i+1)).all ok) (varB n++(l.take (i+1)).flatMap enc) (9+((l.take (i+1)).map wt).sum) bad b bad3 b3:=by
  rw [htk]
  simp only [List.all_append,List.flatMap_append,List.map_append,List.sum_append,List.all_cons,List.all_nil,List.flatMap_cons,List.flatMap_nil,List.map_cons,List.map_nil,List.sum_cons,List.sum_nil,Bool.and_true,List.append_nil,Nat.add_zero, ← List.append_assoc, ← Nat.add_assoc]
  simpa only [List.append_assoc,Nat.add_assoc] using hW
 exact Sy.againT (s3,bad3,b3) l2 ⟨hW',q2⟩ (all_cons kR (all_cons kR (all_cons kR (all_cons kR (all_cons kR all_nil))))) (λw h=>dropR h)
theorem list_w_ous (hm:Mono rep) (hp:PutO 46 58 rep ok enc wt) (w0:Base) (gc gw gx f most:Nat) (hmo:most<1000000) (bad:Bool) (s:Slc) (R:Blocks) (b:Byt) (v:Value) (l:List α) (hv:LstR (rdC w0 R) 58 rep v l) (hc:rdC w0 R gx f v) (hb:BS s b) (hlen:b.length+(9+(l.map wt).sum)≤70368744170000) (w:World) (hw:St w0 w (CWS gc gw bad s R)) :
  Calls Tryz.prog 62 #[ptr gc,.pointer (some ⟨gx,f,none⟩),.int .i64 (most:Int),.func (.func 46) #[] #[]] w (Turns w0 (WrC gc gw R (decide (l.length≤most) && l.all ok) (varB l.length++l.flatMap enc) (9+(l.map wt).sum) bad b)):=by
 have hv0:=hv
 obtain ⟨A,n,cp,rfl,h2,h3,h4',h5⟩:=hv
 refine Sy.enterT (args:=[ptr gc,.pointer (some ⟨gx,f,none⟩),.int .i64 (most:Int),.func (.func 46) #[] #[]]) hw Tryz.func62 rfl kL ?_
 refine sC ?_
 refine sM 85 #[ptr gc] (λg4=>?_)
 refine Sy.permS (List.Perm.of_eq eqCW) ?_
 refine sM 115 #[.func (.func 46) #[] #[]] (λg7=>?_)
 refine Sy.permS (List.Perm.of_eq eqCW) ?_
 obtain ⟨R1,hR1⟩:∃ R1,R1=R++[(g4,85,#[ptr gc])]++[(g7,115,#[.func (.func 46) #[] #[]])]:=⟨_,rfl⟩
 rw [← hR1]
 have m4:(g4,85,#[ptr gc])∈R1:=by rw [hR1]; exact inA lastR
 have m7:(g7,115,#[.func (.func 46) #[] #[]])∈R1:=by rw [hR1]; exact lastR
 have mR:∀ x∈R,x∈R1:=λx hx=>by rw [hR1]; exact inA (inA hx)
 have hv1:LstR (rdC w0 R1) 58 rep (.slice A n cp) l:=LstR.le (rep:=rep) hm (rdC_le mR) hv0
 have hc1:rdC w0 R1 gx f (.slice A n cp):=rdC_le mR _ _ _ hc
 have back:∀ {w:World} {bad':Bool} {s':Slc},St w0 w (CWS gc gw bad' s' R1)→St w0 w (CWS gc gw bad' s' R):=λh=>by
  rw [hR1,List.append_assoc] at h
  exact dropR h
 refine sG<|Sy.seq<|sC ?_
 refine sS (ptr gc) (cellC (R:=R1) (mem1 m4) inCW rfl Tryz.underlying85)<|sS (.bool false) (qg (λw hw=>reads_w w0.inn gc _ _ (List.mem_cons_self ..) w hw)) ?_
 refine sG<|sU<|Sy.skip ?_
 obtain ⟨b1,hb1⟩:∃ z:Bool,z=decide (n≤most):=⟨_,rfl⟩
 refine sR (λj=>j == 7) ?_
 refine sD 0 rfl (ptr gc) (cellC (R:=R1) (mem1 m4) inCW rfl Tryz.underlying85)<|sa 1 rfl rfl<|sa 2 rfl rfl<|se 3 [4,6,7] rfl (.slice A n cp) (cellC (R:=R1) hc1 inCW rfl Tryz.underlying24)<|sb 4 rfl (.int .i64 (n:Int))<|sa 5 rfl rfl ?_
 refine sv 6 rfl (.bool b1) (exec_int .leq _ _ _ .i64 _ _ _ rfl rfl rfl (int_leq _ _ _ _ _ (by rw [hb1]; exact decide_eq_decide.2 (by omega)))) ?_
 refine Sy.soleD 7 rfl (λQ2 hq2=>?_)
 refine Sy.callT (λw hw=>must_w w0.inn gc gw bad b1 s R1 w hw) (λu M hM=>?_)
 subst hM
 refine hq2 _ _ ?_
 refine sE ?_
 obtain ⟨bad1,hbad1⟩:∃ x,x=(bad || !b1):=⟨_,rfl⟩
 rw [← hbad1]
 refine sB ?_
 refine sS (ptr gc) (cellC (R:=R1) (mem1 m4) inCW rfl Tryz.underlying85)<|sp rfl<|sP (.pointer (some ⟨gc,2,none⟩))<|sS (.bool bad1) (qc 0 2 rfl rfl Tryz.underlying4)<|sP (.bool (!bad1)) ?_
 refine sG ?_
 cases bad1
 ·have hb1t:bad=false∧b1=true:=by cases bad <;> cases b1 <;> first | exact ⟨rfl,rfl⟩ | cases hbad1
  obtain ⟨rfl,rfl⟩:=hb1t
  have e1:decide (l.length≤most)=true:=by rw [h2, ← hb1]
  rw [e1,Bool.true_and]
  refine sT ?_
  refine Sy.regionD (λj=>j == 8) kR ?_
  refine se 0 [1,2,3,8] rfl (ptr gc) (cellC (R:=R1) (mem1 m4) inCW rfl Tryz.underlying85)<|sa 1 rfl rfl<|sb 2 rfl (.pointer (some ⟨gc,0,none⟩))<|sD 3 rfl (ptr gw) (qc 0 0 rfl rfl Tryz.underlying130)<|sa 4 rfl rfl<|sa 5 rfl rfl<|sD 6 rfl (.slice A n cp) (cellC (R:=R1) hc1 inCW rfl Tryz.underlying24)<|sb 7 rfl (.func (.func 114) #[] #[ptr g7,ptr g4]) ?_
  refine Sy.soleD 8 rfl (λQ2 hq2=>?_)
  refine Sy.callT (λw hw=>put_w_ous (rep:=rep) hm hp w0.inn gc gw g4 g7 false s R1 b (.slice A n cp) l m4 m7 hv1 hb hlen w hw) (λu M hM=>?_)
  obtain ⟨s1,bad2,b2,q1,q2,rfl⟩:=hM
  refine hq2 _ _ ?_
  refine sE ?_
  exact Sy.retT0 rfl (CWS gc gw bad2 s1 R) (λ_ h=>back h) (λ_=>⟨s1,bad2,b2,q1,q2,rfl⟩)
 ·refine sU<|Sy.skip ?_
  have e1:true=(bad || !(decide (l.length≤most) && l.all ok)):=by
   rw [h2, ← hb1]
   cases bad
   ·cases b1
    ·rfl
    ·cases hbad1
   ·rfl
  exact Sy.retT0 rfl (CWS gc gw true s R) (λ_ h=>back h) (λ_=>⟨s,true,b,⟨e1,λh=>(by cases h),by omega⟩,hb,rfl⟩)
end
section
variable {α:Type} {rep:Rdr→List Value→α→Prop} {p:Ps α}
theorem el_r_ous (hm:Mono rep) (hp:GetC 46 58 (([Value.int .i64 0]++(([Value.bool false]++(Z32++lPT ⟨0,0,false⟩))++(([Value.bool false]++([Value.int .u64 0]++lPT ⟨0,0,false⟩))++([Value.slice none 0 0]++([Value.slice none 0 0]++([Value.slice none 0 0]++([Value.slice none 0 0])))))))) rep p) (w0:Base) (gc gr g4 g7:Nat) (sl:Value) (s:RS) (R S:Blocks) (hS:∀ b∈S,b∈R) (h4:(g4,85,#[ptr gc])∈R) (h7:(g7,115,#[.func (.func 46) #[] #[]])∈R) (he:s.e≤200) (hl:s.rest.length≤70368744177664) (hv:BytR (rdC w0 S) sl s.rest) (u:Value) (w:World) (hw:St w0 w (CRN gc gr sl s.e R)) :
  Calls Tryz.prog 112 #[u,ptr g7,ptr g4] w (Turns w0 (RdV 58 rep p w0 gc gr s R S)):=by
 refine Sy.enterT (args:=[u,ptr g7,ptr g4]) hw Tryz.func112 rfl kL ?_
 refine sC ?_
 refine sM 63 (([Value.int .i64 0]++(([Value.bool false]++(Z32++lPT ⟨0,0,false⟩))++(([Value.bool false]++([Value.int .u64 0]++lPT ⟨0,0,false⟩))++([Value.slice none 0 0]++([Value.slice none 0 0]++([Value.slice none 0 0]++([Value.slice none 0 0])))))))).toArray (λga=>?_)
 refine sA ?_
 refine sM 63 (([Value.int .i64 0]++(([Value.bool false]++(Z32++lPT ⟨0,0,false⟩))++(([Value.bool false]++([Value.int .u64 0]++lPT ⟨0,0,false⟩))++([Value.slice none 0 0]++([Value.slice none 0 0]++([Value.slice none 0 0]++([Value.slice none 0 0])))))))).toArray (λgb=>?_)
 refine Sy.permS (M:=CRS gc gr gb 63 ([]++((([Value.int .i64 0]++(([Value.bool false]++(Z32++lPT ⟨0,0,false⟩))++(([Value.bool false]++([Value.int .u64 0]++lPT ⟨0,0,false⟩))++([Value.slice none 0 0]++([Value.slice none 0 0]++([Value.slice none 0 0]++([Value.slice none 0 0]))))))))++[])) sl s.e ((ga,63,(([Value.int .i64 0]++(([Value.bool false]++(Z32++lPT ⟨0,0,false⟩))++(([Value.bool false]++([Value.int .u64 0]++lPT ⟨0,0,false⟩))++([Value.slice none 0 0]++([Value.slice none 0 0]++([Value.slice none 0 0]++([Value.slice none 0 0])))))))).toArray)::R)) permEl ?_
 refine sA ?_
 refine sS (.func (.func 46) #[] #[]) (cellC (R:=(ga,63,(([Value.int .i64 0]++(([Value.bool false]++(Z32++lPT ⟨0,0,false⟩))++(([Value.bool false]++([Value.int .u64 0]++lPT ⟨0,0,false⟩))++([Value.slice none 0 0]++([Value.slice none 0 0]++([Value.slice none 0 0]++([Value.slice none 0 0])))))))).toArray)::R) (mem1 (List.mem_cons_of_mem _ h7)) inCR rfl Tryz.underlying115)<|sS (ptr gc) (cellC (R:=(ga,63,(([Value.int .i64 0]++(([Value.bool false]++(Z32++lPT ⟨0,0,false⟩))++(([Value.bool false]++([Value.int .u64 0]++lPT ⟨0,0,false⟩))++([Value.slice none 0 0]++([Value.slice none 0 0]++([Value.slice none 0 0]++([Value.slice none 0 0])))))))).toArray)::R) (mem1 (List.mem_cons_of_mem _ h4)) inCR rfl Tryz.underlying85) ?_
 refine Sy.callT (λw hw=>hp w0.inn gc gr gb 0 63 [] [] sl s ((ga,63,(([Value.int .i64 0]++(([Value.bool false]++(Z32++lPT ⟨0,0,false⟩))++(([Value.bool false]++([Value.int .u64 0]++lPT ⟨0,0,false⟩))++([Value.slice none 0 0]++([Value.slice none 0 0]++([Value.slice none 0 0]++([Value.slice none 0 0])))))))).toArray)::R) S (λb h=>List.mem_cons_of_mem _ (hS b h)) rfl he hl hv w hw) (λv M hM=>?_)
 obtain ⟨x,s',sl',cs,N,q1,q2,q3,q4,q5,q6,q7,rfl⟩:=hM
 rw [List.append_nil]
 refine sA ?_
 refine sS (.agg cs.toArray) (Quiet.mid 1 gb 0 58 63 63 cs cs _ _ rfl kR rfl Tryz.underlying63 rfl kR (by rw [List.drop_zero,List.take_of_length_le (by omega)]) (by omega))<|sw 3 rfl cs.toArray (Writes.row 63 cs 58 _ _ rfl kR kR kR q2 (by kernel_rfl) q3) ?_
 refine sG<|Sy.ret ?_
 exact Sy.retT1 (CRN gc gr sl' s'.e (R++N)) rfl (.inl (Sy.Res.cell (ty':=63) ga 3 cs.toArray _ (by kernel_rfl) rfl Tryz.underlying63 rfl (by rw [List.size_toArray,q2]; kernel_rfl) rfl)) (λw h=>h.less (((List.Sublist.refl _).cons _ |>.cons_cons _).cons _ |>.cons_cons _)) ⟨x,s',sl',cs,N,q1,q2,q3,q4,rfl,q5,q6,q7,rfl⟩
theorem items_r_ous (w:World) (gr most g4 g7:Nat):Calls Tryz.prog 174 #[ptr gr,.int .i64 (most:Int),.func (.func 112) #[] #[ptr g7,ptr g4]] w (GetsN w (λv M=>∃ a b c,v=.func (.func 212) #[] #[ptr a,ptr b,ptr c]∧M=[(a,132,#[ptr gr]),(b,3,#[.int .i64 (most:Int)]),(c,241,#[.func (.func 112) #[] #[ptr g7,ptr g4]])])):=by
 refine Sy.enter (args:=[ptr gr,.int .i64 (most:Int),.func (.func 112) #[] #[ptr g7,ptr g4]]) Tryz.func174 rfl kL ?_
 refine sC ?_
 refine sM 132 #[ptr gr] (λa=>?_)
 refine sM 3 #[.int .i64 (most:Int)] (λb=>?_)
 refine sM 241 #[.func (.func 112) #[] #[ptr g7,ptr g4]] (λc=>?_)
 refine sP .nilFunc ?_
 refine sA ?_
 refine sP (.func (.func 212) #[] #[ptr a,ptr b,ptr c])<|sp rfl ?_
 refine sG<|Sy.ret ?_
 exact Sy.retGM _ rfl (.inl (show _=_ by kernel_rfl)) (λ_ h=>h) ⟨a,b,c,rfl,rfl⟩
noncomputable def inf_ous:TypeInfo:=(Tryz.prog.info? 63).getD default
theorem info_ous:Tryz.prog.info? 63=some inf_ous:=by kernel_rfl
def HYL_ous (p:Ps α) (rep:Rdr→List Value→α→Prop) (w0:Base) (S:Blocks) (m:Nat) (s1:RS) (v:Nat×List Value) (y:YL α):Prop:=∃ x,y.x=some x∧y.l.length=v.1∧RowsOk 63 58 rep y.r y.N y.l∧rep (rdB y.N) v.2 x∧v.2.length=58∧(∀ u∈v.2,u.oneCell'=true)∧v.1<1000000
def HRL_ous (rep:Rdr→List Value→α→Prop) (y y':YL α):Prop:=∃ x r',y.x=some x∧RowsOk 63 58 rep r' y.N (y.l++[x])∧y'={ y with l:=y.l++[x],r:=r',x:=none }
theorem iter_r_ous (hm:Mono rep) (hp:GetC 46 58 (([Value.int .i64 0]++(([Value.bool false]++(Z32++lPT ⟨0,0,false⟩))++(([Value.bool false]++([Value.int .u64 0]++lPT ⟨0,0,false⟩))++([Value.slice none 0 0]++([Value.slice none 0 0]++([Value.slice none 0 0]++([Value.slice none 0 0])))))))) rep p) (w0:Base) (fz:World) (gc gr gl g4 g7 a b c most:Nat) (hmost:most<1000000) (R S:Blocks) (s0:RS) (sl0:Value) (hS:∀ x∈S,x∈R) (h4:(g4,85,#[ptr gc])∈R) (h7:(g7,115,#[.func (.func 46) #[] #[]])∈R) (ha:(a,132,#[ptr gr])∈R) (hb:(b,3,#[.int .i64 (most:Int)])∈R) (hc:(c,241,#[.func (.func 112) #[] #[ptr g7,ptr g4]])∈R) (he:s0.e≤200) (hl:s0.rest.length≤70368744177664) (hv:BytR (rdC w0 S) sl0 s0.rest) (lp:Nat) (w:World) (hw:St (ib w0.world fz) w (LBL gc gr gl 24 nilS s0.e sl0 R []))
  (hY:∀ (v:Nat×List Value) (y:YL α) (W:World),(HYL_ous p rep w0 S 0 s0 v y)→St (ib w0.world fz) W (LBL gc gr gl 24 y.r y.s.e y.sl R y.N)→YieldAt Fence.wide 7 Tryz.prog lp #[.int .i64 (v.1:Int),.agg v.2.toArray] W (RoundT w0.world fz (HRL_ous rep y) (λy=>LBL gc gr gl 24 y.r y.s.e y.sl R y.N))) :
  CallsIn Fence.wide 8 Tryz.prog 212 #[.func (.yield lp) #[] #[],ptr a,ptr b,ptr c] w (DoneT w0.world fz (λy:YL α=>∃ m s1,After (varP most) s0 m s1∧s1.rest.length≤s0.rest.length∧y.l.length≤most∧InvL 63 58 rep p w0 S m s1 y.l.length y∧(y.s.e=0→y.l.length=m)) (λy=>LBL gc gr gl 24 y.r y.s.e y.sl R y.N)):=by
 refine Sy.enterI (args:=[.func (.yield lp) #[] #[],ptr a,ptr b,ptr c]) hw Tryz.func212 rfl kL ?_
 refine sC ?_
 refine sS (ptr gr) (cellC (R:=R) (mem1 ha) lbl_in rfl Tryz.underlying132)<|sS (.int .i64 (most:Int)) (cellC (R:=R) (mem1 hb) lbl_in rfl Tryz.underlying3) ?_
 refine Sy.callT (λw hw=>count_any (ib w0.world fz) gr sl0 s0 ((gc,134,#[.pointer none,ptr gr,.bool false])::(gl,24,#[.slice none 0 0])::(R++[])) S (λx h=>List.mem_cons_of_mem _ (List.mem_cons_of_mem _ (List.mem_append_left _ (hS x h)))) most hmost he hv w (hw.perm swap12)) (λu M hM=>?_)
 obtain ⟨m,s1,sl1,hA1,⟨rfl,hm1⟩,hs1e,hs1r,hs1b,rfl⟩:=hM
 refine Sy.permS (M:=LBL gc gr gl 24 nilS s1.e sl1 R []) swap12.symm ?_
 refine sp rfl ?_
 refine sA ?_
 refine sP (.int .i64 0) ?_
 refine sG<|Sy.block ?_
 refine Sy.loopT (Y:=YL α) m (λi y=>[(0,.func (.yield lp) #[] #[]),(1,ptr a),(2,ptr b),(3,ptr c),(5,.int .i64 (m:Int)),(6,.int .i64 (i:Int))]) (λi y=>LBL gc gr gl 24 y.r y.s.e y.sl R y.N) (λi y=>InvL 63 58 rep p w0 S m s1 i y) ⟨[],nilS,s1,sl1,[],none⟩ ⟨rfl,RowsOk.nil,λh=>⟨h,rfl⟩,λh=>.inl h,hs1e,Nat.le_refl _,hs1b⟩ (all_cons kR (all_cons kR (all_cons kR (all_cons kR (all_cons kR (all_cons kR all_nil)))))) (λ_ h=>h) (λi y hi hy=>?_)
 obtain ⟨l,r,s,sl,N,xo⟩:=y
 have hylen:l.length=i:=hy.len
 refine Sy.seq<|sC ?_
 obtain ⟨b1,hb1⟩:∃ z:Bool,z=decide (i<m):=⟨_,rfl⟩
 refine sp rfl<|sp rfl<|sS (.bool b1) (Quiet.pure (exec_int .lss _ _ _ .i64 _ _ _ rfl rfl rfl (int_lss _ _ _ _ _ (by rw [hb1]; exact decide_eq_decide.2 (by omega)))))<|sp rfl ?_
 cases b1
 case' false =>
  have l1:¬ i<m:=of_decide_eq_false hb1.symm
  obtain rfl:i=m:=by omega
  refine sN<|sN<|sN<|sP (.bool false) ?_
  refine sG<|sU<|Sy.exit<|Sy.then_exit<|Sy.then_exit<|Sy.in_exit ?_
  exact Sy.retI rfl (λv w h=>⟨⟨_,rfl⟩,⟨l,r,s,sl,N,xo⟩,⟨i,s1,hA1,hs1r,by show l.length≤most; omega,by rw [show (⟨l,r,s,sl,N,xo⟩:YL α).l.length=i from hylen]; exact hy,λ_=>hylen⟩,h⟩) (.inr rfl)
 have l1:i<m:=of_decide_eq_true hb1.symm
 obtain ⟨b2,hb2⟩:∃ z:Bool,z=decide (s.e=0):=⟨_,rfl⟩
 have hse:s.e≤200:=hy.e
 refine sS (ptr gr) (cellC (R:=R) (mem1 ha) lbl_in rfl Tryz.underlying132)<|sS (.int .i64 (s.e:Int)) (qg (λw hw=>err_any (ib w0.world fz) gr sl s.e [] (List.mem_cons_of_mem _ (List.mem_cons_self ..)) w hw))<|sS (.bool b2) (Quiet.pure (exec_int .eql _ _ _ .i64 _ _ _ rfl rfl rfl (int_eql _ _ _ _ _ (by rw [hb2]; exact decide_eq_decide.2 (by omega)))))<|sP (.bool b2) ?_
 refine sG ?_
 cases b2
 case' false =>
  have l2:s.e≠0:=of_decide_eq_false hb2.symm
  refine sU<|Sy.exit<|Sy.then_exit<|Sy.then_exit<|Sy.in_exit ?_
  exact Sy.retI rfl (λv w h=>⟨⟨_,rfl⟩,⟨l,r,s,sl,N,xo⟩,⟨m,s1,hA1,hs1r,by show l.length≤most; omega,by rw [show (⟨l,r,s,sl,N,xo⟩:YL α).l.length=i from hylen]; exact hy,λh=>(l2 h).elim⟩,h⟩) (.inr rfl)
 have l2:s.e=0:=of_decide_eq_true hb2.symm
 obtain ⟨hs10,hrep⟩:=hy.yes l2
 refine sT<|Sy.skip<|Sy.then_<|Sy.seq<|Sy.block<|sC ?_
 refine sS (.func (.func 112) #[] #[ptr g7,ptr g4]) (cellC (R:=R) (mem1 hc) lbl_in rfl Tryz.underlying241)<|sS (ptr gr) (cellC (R:=R) (mem1 ha) lbl_in rfl Tryz.underlying132) ?_
 refine Sy.callT (λw hw=>el_r_ous (rep:=rep) (p:=p) hm hp (ib w0.world fz) gc gr g4 g7 sl s ((gl,24,#[r.v])::(r.bl++(R++N))) S (λx h=>List.mem_cons_of_mem _ (List.mem_append_right _ (List.mem_append_left _ (hS x h)))) (List.mem_cons_of_mem _ (List.mem_append_right _ (List.mem_append_left _ h4))) (List.mem_cons_of_mem _ (List.mem_append_right _ (List.mem_append_left _ h7))) hse (Nat.le_trans (Nat.le_trans hy.rest hs1r) hl) hy.byt (ptr gr) w hw) (λu M hM=>?_)
 obtain ⟨x,s',sl',cs,N1,q1,q2,q3,q4,rfl,q5,q6,q7,rfl⟩:=hM
 obtain ⟨st1,st2⟩:=rep_step hrep l2 q1
 refine sM 63 (([Value.int .i64 0]++(([Value.bool false]++(Z32++lPT ⟨0,0,false⟩))++(([Value.bool false]++([Value.int .u64 0]++lPT ⟨0,0,false⟩))++([Value.slice none 0 0]++([Value.slice none 0 0]++([Value.slice none 0 0]++([Value.slice none 0 0])))))))).toArray (λgb=>?_)
 refine Sy.permS (M:=(gb,63,(([Value.int .i64 0]++(([Value.bool false]++(Z32++lPT ⟨0,0,false⟩))++(([Value.bool false]++([Value.int .u64 0]++lPT ⟨0,0,false⟩))++([Value.slice none 0 0]++([Value.slice none 0 0]++([Value.slice none 0 0]++([Value.slice none 0 0])))))))).toArray)::LBL gc gr gl 24 r s'.e sl' R (N++N1)) ((List.perm_append_comm (l₂:=[(gb,63,(([Value.int .i64 0]++(([Value.bool false]++(Z32++lPT ⟨0,0,false⟩))++(([Value.bool false]++([Value.int .u64 0]++lPT ⟨0,0,false⟩))++([Value.slice none 0 0]++([Value.slice none 0 0]++([Value.slice none 0 0]++([Value.slice none 0 0])))))))).toArray)])).trans (List.Perm.cons _ (List.Perm.of_eq (by simp only [List.cons_append,List.append_assoc,List.nil_append]; rfl)))) ?_
 refine sw 0 rfl cs.toArray (Writes.row 63 cs 58 _ _ rfl kR kR kR q2 (by kernel_rfl) q3) ?_
 refine Sy.nil<|Sy.then_ ?_
 have hR2:RowsOk 63 58 rep r (N++N1) l:=RowsOk.more (rep:=rep) hm hy.rows (λb h=>List.mem_append_left _ h)
 have hx2:rep (rdB (N++N1)) cs x:=hm (rdB_le λb h=>List.mem_append_right _ h) q4
 have drop1:∀ {w:World},St (ib w0.world fz) w ((gb,63,cs.toArray)::LBL gc gr gl 24 r s'.e sl' R (N++N1))→St (ib w0.world fz) w (LBL gc gr gl 24 r s'.e sl' R (N++N1)):=λh=>h.less (List.sublist_cons_self _ _)
 obtain ⟨b3,hb3⟩:∃ z:Bool,z=decide (s'.e≠0):=⟨_,rfl⟩
 have inl:∀ b∈R,b∈(gb,63,cs.toArray)::LBL gc gr gl 24 r s'.e sl' R (N++N1):=λb h=>List.mem_cons_of_mem _ (lbl_in b h)
 refine Sy.seq ?_
 cases b3
 case' true =>
  have l3:s'.e≠0:=of_decide_eq_true hb3.symm
  refine Sy.region ?_
  refine sS (ptr gr) (cellC (R:=R) (mem1 ha) inl rfl Tryz.underlying132)<|sS (.int .i64 (s'.e:Int)) (qg (λw hw=>err_any (ib w0.world fz) gr sl' s'.e [] (List.mem_cons_of_mem _ (List.mem_cons_of_mem _ (List.mem_cons_self ..))) w hw))<|sS (.bool true) (Quiet.pure (exec_int .neq _ _ _ .i64 _ _ _ rfl rfl rfl (int_neq _ _ _ _ _ (by rw [hb3]; exact decide_eq_decide.2 (by omega)))))<|sp rfl<|sN<|sN<|sN<|sN<|sN<|sP (.bool true) ?_
  refine sG<|sT<|Sy.ret<|Sy.in_ret<|Sy.then_ret<|Sy.then_ret<|Sy.in_ret ?_
  exact Sy.retI rfl (λv w h=>⟨⟨_,rfl⟩,⟨l,r,s',sl',N++N1,none⟩,⟨m,s1,hA1,hs1r,by show l.length≤most; omega,⟨rfl,hR2,λh=>(l3 h).elim,λ_=>.inr (st2 l3 m l1),q5,Nat.le_trans q6 hy.rest,q7⟩,λh=>(l3 h).elim⟩,drop1 h⟩) (.inl rfl)
 have l3:s'.e=0:=Decidable.of_not_not (of_decide_eq_false hb3.symm)
 refine Sy.regionI 7 (by rintro ⟨_,_,⟨_,hv⟩,_⟩; cases hv) kR ?_
 refine sS (ptr gr) (cellC (R:=R) (mem1 ha) inl rfl Tryz.underlying132)<|sS (.int .i64 (s'.e:Int)) (qg (λw hw=>err_any (ib w0.world fz) gr sl' s'.e [] (List.mem_cons_of_mem _ (List.mem_cons_of_mem _ (List.mem_cons_self ..))) w hw))<|sS (.bool false) (Quiet.pure (exec_int .neq _ _ _ .i64 _ _ _ rfl rfl rfl (int_neq _ _ _ _ _ (by rw [hb3]; exact decide_eq_decide.2 (by omega)))))<|sp rfl<|sp rfl<|sp rfl<|sS (.agg cs.toArray) (Quiet.mid 0 gb 0 58 63 63 cs cs _ _ rfl kR rfl Tryz.underlying63 rfl kR (by rw [List.drop_zero,List.take_of_length_le (by omega)]) (by omega)) ?_
 refine Sy.nil ?_
 refine Sy.yieldI (HR:=HRL_ous rep ⟨l,r,s',sl',N++N1,some x⟩) (LR:=λy=>LBL gc gr gl 24 y.r y.s.e y.sl R y.N) rfl (by rintro ⟨_,_,⟨_,hv⟩,_⟩; cases hv) kR kR lp #[.int .i64 (i:Int),.agg cs.toArray] kF (λw hw=>hY (i,cs) ⟨l,r,s',sl',N++N1,some x⟩ w ⟨x,rfl,hylen,hR2,hx2,q2,q3,by show i<1000000; omega⟩ (drop1 hw)) (λy' hy'=>?_)
 obtain ⟨x',r',hx',hr',rfl⟩:=hy'
 obtain rfl:x=x':=by injection hx'
 refine sP (.bool false)<|sP (.bool false) ?_
 refine sG<|sU<|Sy.skip<|Sy.in_<|Sy.then_<|Sy.region ?_
 refine sp rfl<|sS (.int .i64 ((i+1:Nat):Int)) (Quiet.pure (exec_int .add _ _ _ .i64 _ _ _ rfl rfl rfl (int_add _ _ _ _ _ ((wrap_i64 (by omega) (by omega)).trans (by omega)))))<|sp rfl ?_
 refine Sy.nil ?_
 exact Sy.againT ⟨l++[x],r',s',sl',N++N1,none⟩ l1 ⟨by simp [hylen],hr',λ_=>⟨hs10,st1 l3⟩,λh=>(h l3).elim,q5,Nat.le_trans q6 hy.rest,q7⟩ (all_cons kR (all_cons kR (all_cons kR (all_cons kR (all_cons kR (all_cons kR all_nil)))))) (λw h=>h)
theorem list9_r_ous (hm:Mono rep) (hp:GetC 46 58 (([Value.int .i64 0]++(([Value.bool false]++(Z32++lPT ⟨0,0,false⟩))++(([Value.bool false]++([Value.int .u64 0]++lPT ⟨0,0,false⟩))++([Value.slice none 0 0]++([Value.slice none 0 0]++([Value.slice none 0 0]++([Value.slice none 0 0])))))))) rep p) (w0:Base) (gc gr g4 g7 most:Nat) (hmost:most<1000000) (sl0:Value) (s0:RS) (R S:Blocks) (hS:∀ x∈S,x∈R) (h4:(g4,85,#[ptr gc])∈R) (h7:(g7,115,#[.func (.func 46) #[] #[]])∈R) (he:s0.e≤200) (hl:s0.rest.length≤70368744177664) (hv:BytR (rdC w0 S) sl0 s0.rest) (w:World) (hw:St w0 w (CRN gc gr sl0 s0.e R)) :
  Calls Tryz.prog 111 #[ptr gr,.int .i64 (most:Int),.func (.func 112) #[] #[ptr g7,ptr g4]] w (Turns w0 (RdL 58 rep (listP most p) w0 gc gr s0 R S)):=by
 refine Sy.enterTM (args:=[ptr gr,.int .i64 (most:Int),.func (.func 112) #[] #[ptr g7,ptr g4]]) hw Tryz.func111 rfl kL ?_
 refine sC ?_
 refine sP (.slice none 0 0) ?_
 refine sA ?_
 refine sM 24 #[.slice none 0 0] (λgl=>?_)
 refine sG<|Sy.seq<|sC ?_
 refine sp rfl<|sp rfl<|sp rfl ?_
 refine Sy.callN kR 174 #[ptr gr,.int .i64 (most:Int),.func (.func 112) #[] #[ptr g7,ptr g4]] kF _ (λw _=>items_r_ous w gr most g4 g7) (λv M hM=>?_)
 obtain ⟨a,b,c,rfl,rfl⟩:=hM
 refine Sy.nil<|Sy.then_<|Sy.block ?_
 obtain ⟨R1,hR1⟩:∃ R1,R1=R++[(a,132,#[ptr gr]),(b,3,#[.int .i64 (most:Int)]),(c,241,#[.func (.func 112) #[] #[ptr g7,ptr g4]])]:=⟨_,rfl⟩
 refine Sy.permC (M:=LBL gc gr gl 24 nilS s0.e sl0 R1 []) (by rw [hR1]; exact permLB) ?_
 have mR:∀ x∈R,x∈R1:=λx hx=>by rw [hR1]; exact List.mem_append_left _ hx
 have ma:(a,132,#[ptr gr])∈R1:=by rw [hR1]; simp
 have mb:(b,3,#[.int .i64 (most:Int)])∈R1:=by rw [hR1]; simp
 have mc:(c,241,#[.func (.func 112) #[] #[ptr g7,ptr g4]])∈R1:=by rw [hR1]; simp
 refine Sy.rangeT (α:=Nat×List Value) (Y:=YL α) (Z:=Nat) 212 #[ptr a,ptr b,ptr c] kR kR (enters_of Tryz.func212 kR rfl) (λv=>#[.int .i64 (v.1:Int),.agg v.2.toArray]) (λ_=>rfl) (by decide)
  (HYL_ous p rep w0 S 0 s0) (λ_ y=>LBL gc gr gl 24 y.r y.s.e y.sl R1 y.N) (λ_ _ z=>[(7,ptr gl),(9,ptr z)]) (λv y z=>(z,63,v.2.toArray)::LBL gc gr gl 24 y.r y.s.e y.sl R1 y.N) (λ_ y=>HRL_ous rep y) (λy=>LBL gc gr gl 24 y.r y.s.e y.sl R1 y.N)
  (λy:YL α=>∃ m s1,After (varP most) s0 m s1∧s1.rest.length≤s0.rest.length∧y.l.length≤most∧InvL 63 58 rep p w0 S m s1 y.l.length y∧(y.s.e=0→y.l.length=m)) (λy=>LBL gc gr gl 24 y.r y.s.e y.sl R1 y.N) ?_ ?_ ?_ ?_
 ·exact λlp fz w hw hY=>iter_r_ous (rep:=rep) (p:=p) hm hp w0 fz gc gr gl g4 g7 a b c most hmost R1 S s0 sl0 (λx h=>mR x (hS x h)) (mR _ h4) (mR _ h7) ma mb mc he hl hv lp w hw hY
 ·rintro lp fz ⟨i,cs⟩ ⟨l,r,s,sl,N,xo⟩ ⟨x,rfl,_,_,_,c1,c2,_⟩
  dsimp only at c1 c2 ⊢
  refine Sy.regionR (by rintro ⟨_,_,h⟩; exact h) kR ⟨_,rfl⟩ ?_
  refine sM 63 (([Value.int .i64 0]++(([Value.bool false]++(Z32++lPT ⟨0,0,false⟩))++(([Value.bool false]++([Value.int .u64 0]++lPT ⟨0,0,false⟩))++([Value.slice none 0 0]++([Value.slice none 0 0]++([Value.slice none 0 0]++([Value.slice none 0 0])))))))).toArray (λz=>?_)
  refine Sy.permS (M:=(z,63,(([Value.int .i64 0]++(([Value.bool false]++(Z32++lPT ⟨0,0,false⟩))++(([Value.bool false]++([Value.int .u64 0]++lPT ⟨0,0,false⟩))++([Value.slice none 0 0]++([Value.slice none 0 0]++([Value.slice none 0 0]++([Value.slice none 0 0])))))))).toArray)::LBL gc gr gl 24 r s.e sl R1 N) (List.perm_append_comm (l₂:=[(z,63,(([Value.int .i64 0]++(([Value.bool false]++(Z32++lPT ⟨0,0,false⟩))++(([Value.bool false]++([Value.int .u64 0]++lPT ⟨0,0,false⟩))++([Value.slice none 0 0]++([Value.slice none 0 0]++([Value.slice none 0 0]++([Value.slice none 0 0])))))))).toArray)])) ?_
  refine sw 0 rfl cs.toArray (Writes.row 63 cs 58 _ _ rfl kR kR kR c1 (by kernel_rfl) c2) ?_
  refine Sy.nil ?_
  exact apZ z (all_cons kR (all_cons kR all_nil)) (λ_ h=>h)
 ·rintro lp fz ⟨i,cs⟩ ⟨l,r,s,sl,N,xo⟩ z ⟨x,rfl,hli,⟨xs,x1,x2,x3⟩,hx,c1,c2,hi⟩
  dsimp only at c1 c2 hli x1 x2 x3 hx hi ⊢
  refine Sy.block ?_
  refine Sy.regionR (by rintro ⟨_,_,h⟩; exact h) kR ⟨_,rfl⟩ ?_
  refine sS r.v (qc 3 0 rfl rfl Tryz.underlying24)<|sS (.agg cs.toArray) (Quiet.mid 0 z 0 58 63 63 cs cs _ _ rfl kR rfl Tryz.underlying63 rfl kR (by rw [List.drop_zero,List.take_of_length_le (by omega)]) (by omega)) ?_
  refine Sy.make kR 63 cs.toArray (λg=>.slice (some ⟨g,0,none⟩) 1 1) (Makes.one 24 63 _ _ 58 _ cs rfl kR Tryz.underlying24 info_ous rfl rfl c1 (by decide) (by decide)) (λg8=>?_)
  refine Sy.permS (M:=[(z,63,cs.toArray),(gc,134,#[.pointer none,ptr gr,.bool false]),(gr,253,#[sl,.int .i64 (s.e:Int)]),(gl,24,#[r.v]),(g8,63,cs.toArray)]++(r.bl++(R1++N))) (Sy.flat_perm (ls:=[[(z,63,cs.toArray),(gc,134,#[.pointer none,ptr gr,.bool false]),(gr,253,#[sl,.int .i64 (s.e:Int)]),(gl,24,#[r.v])],r.bl++(R1++N),[(g8,63,cs.toArray)]]) (ms:=[[(z,63,cs.toArray),(gc,134,#[.pointer none,ptr gr,.bool false]),(gr,253,#[sl,.int .i64 (s.e:Int)]),(gl,24,#[r.v])],[(g8,63,cs.toArray)],r.bl++(R1++N)]) [0,2,1] (by kernel_rfl) (by rfl) (by simp) (by simp)) ?_
  refine Sy.appendR kR 24 63 _ _ 58 304 Tryz.underlying24 info_ous rfl rfl rfl rfl (by decide) _ _ rfl x1 kR cs c1 c2 4 g8 63 kR kR (by omega) (by simp only [maxLen]; omega) (λr' hr'=>?_)
  refine sw 3 rfl #[r'.v] (Writes.one 0 24 r'.v _ _ rfl kR kR kR hr'.cells.1 hr'.cells.2 Nat.zero_lt_one kR) ?_
  refine Sy.setT ?_
  refine Sy.nil<|Sy.in_ ?_
  exact bpZ ⟨l++[x],r',s,sl,N,none⟩ ⟨x,r',rfl,RowsOk.add (rep:=rep) x2 x3 hr' hx,rfl⟩ (λw h=>Sy.St.parts (ls:=[[(z,63,cs.toArray)],[(gc,134,#[.pointer none,ptr gr,.bool false]),(gr,253,#[sl,.int .i64 (s.e:Int)]),(gl,24,#[r'.v])],[(g8,63,cs.toArray)],r'.bl++(R1++N)]) (ms:=[[(gc,134,#[.pointer none,ptr gr,.bool false]),(gr,253,#[sl,.int .i64 (s.e:Int)]),(gl,24,#[r'.v])],r'.bl++(R1++N)]) [[(z,63,cs.toArray)],[(g8,63,cs.toArray)]] [1,3,0,2] (by kernel_rfl) (by rfl) (by simp) (by simp) h)
 ·rintro D fz ⟨l,r,s,sl,N,xo⟩ ⟨m,s1,hA1,hs1,hlm,hI,hdn⟩ hD hD2 hmk h0
  dsimp only at hI hdn hlm ⊢
  have hse:s.e≤200:=hI.e
  have hrest:s.rest.length≤s0.rest.length:=Nat.le_trans hI.rest hs1
  refine Sy.in_<|Sy.then_<|Sy.seq<|sC ?_
  obtain ⟨b1,hb1⟩:∃ z:Bool,z=decide (s.e≠0):=⟨_,rfl⟩
  refine sp rfl<|sS (.int .i64 (s.e:Int)) (qg (λw hw=>err_any (ab w0.world fz D) gr sl s.e [] (List.mem_cons_of_mem _ (List.mem_cons_self ..)) w hw))<|sS (.bool b1) (Quiet.pure (exec_int .neq _ _ _ .i64 _ _ _ rfl rfl rfl (int_neq _ _ _ _ _ (by rw [hb1]; exact decide_eq_decide.2 (by omega))))) ?_
  refine sG ?_
  cases b1
  ·have l1:s.e=0:=Decidable.of_not_not (of_decide_eq_false hb1.symm)
   obtain ⟨z1,z2⟩:=hI.yes l1
   rw [hdn l1] at z2
   refine sU<|Sy.skip<|sB ?_
   refine sS r.v (qc 2 0 rfl rfl Tryz.underlying24)<|sp rfl ?_
   refine sG<|Sy.ret ?_
   refine Sy.retTM1 (b0:=w0) (M:=CRN gc gr sl s.e (R++(N++r.bl))) rfl (.inl (show _=_ by kernel_rfl)) (λw h=>Sy.St.parts (ls:=[[(gc,134,#[.pointer none,ptr gr,.bool false]),(gr,253,#[sl,.int .i64 (s.e:Int)])],[(gl,24,#[r.v])],r.bl,R,[(a,132,#[ptr gr]),(b,3,#[.int .i64 (most:Int)]),(c,241,#[.func (.func 112) #[] #[ptr g7,ptr g4]])],N]) (ms:=[[(gc,134,#[.pointer none,ptr gr,.bool false]),(gr,253,#[sl,.int .i64 (s.e:Int)])],R,N,r.bl]) [[(gl,24,#[r.v])],[(a,132,#[ptr gr]),(b,3,#[.int .i64 (most:Int)]),(c,241,#[.func (.func 112) #[] #[ptr g7,ptr g4]])]] [0,3,5,2,1,4] (by kernel_rfl) (by rfl) (by rw [hR1]; simp) (by simp) h) ⟨l,s,sl,N++r.bl,hA1.bind ⟨λh=>(h z1).elim,λy q _ hy=>?_,λ_ hy=>?_⟩,RowsOk.lst (rep:=rep) hm hI.rows,hse,hrest,hI.byt,rfl⟩ hD hD2 hmk h0.out
   ·rw [z2] at hy
    cases hy
    exact ⟨rfl,by rw [← l1]⟩
   ·rw [z2] at hy; cases hy
  ·have l1:s.e≠0:=of_decide_eq_true hb1.symm
   refine sT<|sC ?_
   refine sP (.slice none 0 0) ?_
   refine sG<|Sy.ret<|Sy.then_ret ?_
   refine Sy.retTM1 (b0:=w0) (M:=CRN gc gr sl s.e (R++[])) rfl (.inl (show _=_ by kernel_rfl)) (λw h=>Sy.St.parts (ls:=[[(gc,134,#[.pointer none,ptr gr,.bool false]),(gr,253,#[sl,.int .i64 (s.e:Int)])],[(gl,24,#[r.v])],r.bl,R,[(a,132,#[ptr gr]),(b,3,#[.int .i64 (most:Int)]),(c,241,#[.func (.func 112) #[] #[ptr g7,ptr g4]])],N]) (ms:=[[(gc,134,#[.pointer none,ptr gr,.bool false]),(gr,253,#[sl,.int .i64 (s.e:Int)])],R]) [[(gl,24,#[r.v])],r.bl,[(a,132,#[ptr gr]),(b,3,#[.int .i64 (most:Int)]),(c,241,#[.func (.func 112) #[] #[ptr g7,ptr g4]])],N] [0,3,1,2,4,5] (by kernel_rfl) (by rfl) (by rw [hR1]; simp) (by simp) h) ⟨[],s,sl,[],hA1.bind ⟨λ_=>l1,λy q h1 hy=>?_,λ_ _=>l1⟩,⟨none,0,0,rfl,rfl,Nat.le_refl _,Nat.zero_le _,λh=>(h rfl).elim⟩,hse,hrest,hI.byt,rfl⟩ hD hD2 hmk h0.out
   rcases hI.no l1 with h | h
   ·exact (h h1).elim
   ·rw [h] at hy; cases hy
theorem list_r_ous (hm:Mono rep) (hp:GetC 46 58 (([Value.int .i64 0]++(([Value.bool false]++(Z32++lPT ⟨0,0,false⟩))++(([Value.bool false]++([Value.int .u64 0]++lPT ⟨0,0,false⟩))++([Value.slice none 0 0]++([Value.slice none 0 0]++([Value.slice none 0 0]++([Value.slice none 0 0])))))))) rep p) (w0:Base) (gc gr gx f most:Nat) (hmost:most<1000000) (tx:TypeId) (A Z:List Value) (sl:Value) (s:RS) (R S:Blocks) (hS:∀ b∈S,b∈R) (hA:A.length=f) (he:s.e≤200) (hl:s.rest.length≤70368744177664) (hv:BytR (rdC w0 S) sl s.rest) (w:World) (hw:St w0 w (CRS gc gr gx tx (A++([Value.slice none 0 0]++Z)) sl s.e R)) :
  Calls Tryz.prog 62 #[ptr gc,.pointer (some ⟨gx,f,none⟩),.int .i64 (most:Int),.func (.func 46) #[] #[]] w (Turns w0 (RdT 1 (repL 58 rep) (listP most p) w0 gc gr gx tx A Z s R S)):=by
 refine Sy.enterT (args:=[ptr gc,.pointer (some ⟨gx,f,none⟩),.int .i64 (most:Int),.func (.func 46) #[] #[]]) hw Tryz.func62 rfl kL ?_
 refine sC ?_
 refine sM 85 #[ptr gc] (λg4=>?_)
 refine sM 115 #[.func (.func 46) #[] #[]] (λg7=>?_)
 obtain ⟨R1,hR1⟩:∃ R1,R1=R++([(g4,85,#[ptr gc])]++[(g7,115,#[.func (.func 46) #[] #[]])]):=⟨_,rfl⟩
 refine Sy.permS (M:=CRS gc gr gx tx (A++([Value.slice none 0 0]++Z)) sl s.e R1) (List.Perm.of_eq (by rw [hR1]; simp)) ?_
 have mR:∀ x∈R,x∈R1:=λx hx=>by rw [hR1]; exact List.mem_append_left _ hx
 have m4:(g4,85,#[ptr gc])∈R1:=by rw [hR1]; simp
 have m7:(g7,115,#[.func (.func 46) #[] #[]])∈R1:=by rw [hR1]; simp
 refine sG<|Sy.seq<|sC ?_
 refine sS (ptr gc) (cellC (R:=R1) (mem1 m4) inCR rfl Tryz.underlying85)<|sS (.bool true) (qg (λw hw=>reads_r w0.inn gc gr _ _ (List.mem_cons_self ..) w hw)) ?_
 refine sG<|sT<|sC ?_
 refine sp rfl<|sS (ptr gc) (cellC (R:=R1) (mem1 m4) inCR rfl Tryz.underlying85)<|sp rfl<|sP (.pointer (some ⟨gc,1,none⟩))<|sS (ptr gr) (qc 0 1 rfl rfl Tryz.underlying132)<|sp rfl<|sP (.func (.func 112) #[] #[ptr g7,ptr g4]) ?_
 refine Sy.callT (λw hw=>list9_r_ous (rep:=rep) (p:=p) hm hp w0.inn gc gr g4 g7 most hmost sl s ((gx,tx,(A++([Value.slice none 0 0]++Z)).toArray)::R1) S (λx h=>List.mem_cons_of_mem _ (mR x (hS x h))) (List.mem_cons_of_mem _ m4) (List.mem_cons_of_mem _ m7) he hl hv w (hw.perm swap23)) (λv M hM=>?_)
 obtain ⟨l,s',sl',N,q1,q2,q3,q4,q5,rfl⟩:=hM
 refine Sy.permS (M:=CRS gc gr gx tx (A++([Value.slice none 0 0]++Z)) sl' s'.e (R1++N)) swap23 ?_
 refine sp rfl<|sw 1 rfl (A++([v]++Z)).toArray (Writes.one f 24 v _ _ rfl kR kR kR q2.cells.1 q2.cells.2 (by rw [List.size_toArray,List.length_append,hA]; exact Nat.lt_add_of_pos_right (Nat.succ_pos _)) (set_mid hA)) ?_
 refine sG<|Sy.ret<|Sy.then_ret ?_
 exact Sy.retT0 rfl (CRS gc gr gx tx (A++([v]++Z)) sl' s'.e (R++N)) (λw h=>Sy.St.parts (ls:=[[(gc,134,#[.pointer none,ptr gr,.bool false]),(gx,tx,(A++([v]++Z)).toArray),(gr,253,#[sl',.int .i64 (s'.e:Int)])],R,[(g4,85,#[ptr gc])]++[(g7,115,#[.func (.func 46) #[] #[]])],N]) (ms:=[[(gc,134,#[.pointer none,ptr gr,.bool false]),(gx,tx,(A++([v]++Z)).toArray),(gr,253,#[sl',.int .i64 (s'.e:Int)])],R,N]) [[(g4,85,#[ptr gc])]++[(g7,115,#[.func (.func 46) #[] #[]])]] [0,1,3,2] (by kernel_rfl) (by rfl) (by rw [hR1]; simp) (by simp) h) (λ_=>⟨l,s',sl',[v],N,q1,rfl,λu hu=>by rw [List.mem_singleton.1 hu]; exact q2.cells.2,⟨v,rfl,q2⟩,q3,q4,q5,rfl⟩)
end
end Wr
end
section
namespace Wr
open Go.RowKit Sy
set_option maxRecDepth 100000
set_option maxHeartbeats 4000000
structure MCf where
 peg:Byt
 depth:Nat
 fed:MPa
 main:MHd
 coins:List MOu
def repCF (C:Rdr) (cs:List Value) (t:MCf):Prop:=∃ cp cm vc,cs=t.peg.map bv++([.int .u64 (t.depth:Int)]++(cp++(cm++[vc])))∧t.peg.length=32∧t.depth<18446744073709551616∧repPA C cp t.fed∧repMH C cm t.main∧LstR C 58 repOU vc t.coins
theorem monoCF:Mono repCF:=λhl ⟨cp,cm,vc,h0,h1,h2,h3,h4,h5⟩=>⟨cp,cm,vc,h0,h1,h2,monoPA hl h3,h4,LstR.le (rep:=repOU) monoOU hl h5⟩
def okCF (t:MCf):Bool:=okPA t.fed && (decide (t.coins.length≤64) && t.coins.all okOU)
def encCF (t:MCf):Byt:=t.peg++(nb 8 t.depth++(encPA t.fed++(encMH t.main++encL encOU t.coins)))
def wtCF (t:MCf):Nat:=32+(8+(wtPA t.fed+(80+(9+(t.coins.map wtOU).sum))))
def rdCF:Ps MCf:=bindP (takeP 32) λp=>bindP (numP 8) λd=>bindP rdPA λf=>bindP rdMH λm=>bindP (listP 64 rdOU) λc=>retP ⟨p,d,f,m,c⟩
theorem lenPA {C:Rdr} {cs:List Value} {t:MPa} (h:repPA C cs t):cs.length=2:=by obtain ⟨v,rfl,_⟩:=h; rfl
theorem lenMH {C:Rdr} {cs:List Value} {t:MHd} (h:repMH C cs t):cs.length=66:=by
 obtain ⟨rfl,h1,h2,_⟩:=h
 simp only [List.length_append,List.length_map,h1,h2]; rfl
theorem config_w:PutC 52 102 repCF okCF encCF wtCF:=λw0 gc gw gx f bad s R b cs x hx _ hc hb hl w hw=>by
 obtain ⟨pg,de,fe,mn,co⟩:=x
 obtain ⟨cp,cm,vc,rfl,h1,h2,h3,h4,h5⟩:=hx
 dsimp only at h1 h2 h3 h4 h5 hc
 unfold wtCF at hl
 dsimp only at hl
 have n1:(pg.map bv).length=32:=by rw [List.length_map,h1]
 have n3:=lenPA h3
 have n4:=lenMH h4
 have X0:XAt (rdC w0 R) gx f (pg.map bv):=hc.left
 have Y1:XAt (rdC w0 R) gx (f+32) ([.int .u64 (de:Int)]++(cp++(cm++[vc]))):=hc.right n1
 have Y2:XAt (rdC w0 R) gx (f+33) (cp++(cm++[vc])):=Y1.right (n:=1) rfl
 have Y3:XAt (rdC w0 R) gx (f+35) (cm++[vc]):=Y2.right n3
 have Y4:XAt (rdC w0 R) gx (f+101) [vc]:=Y3.right n4
 refine Sy.enterT (args:=[ptr gc,.pointer (some ⟨gx,f,none⟩)]) hw Tryz.func52 rfl kL ?_
 refine sC ?_
 refine sp rfl<|sp rfl<|sp rfl<|sP (.pointer (some ⟨gx,f,none⟩)) ?_
 refine Sy.callT (λw hw=>digest_w w0.inn gc gw gx f bad s R b pg h1 X0 hb (by omega) w hw) (λu M hM=>?_)
 obtain ⟨s1,bad1,b1,q1,p1,rfl⟩:=hM
 have l1:b1.length≤b.length+32:=q1.len
 refine sA ?_
 refine sp rfl<|sp rfl<|sp rfl<|sP (.pointer (some ⟨gx,f+32,none⟩)) ?_
 refine Sy.callT (λw hw=>long_w w0.inn gc gw gx (f+32) bad1 s1 R b1 de h2 Y1.one p1 (by omega) w hw) (λu M hM=>?_)
 obtain ⟨s2,bad2,b2,q2,p2,rfl⟩:=hM
 have l2:b2.length≤b1.length+8:=q2.len
 refine sA ?_
 refine sp rfl<|sp rfl<|sp rfl<|sP (.pointer (some ⟨gx,f+33,none⟩)) ?_
 refine Sy.callT (λw hw=>params_w w0.inn gc gw gx (f+33) bad2 s2 R b2 cp fe h3 n3 Y2.left p2 (by omega) w hw) (λu M hM=>?_)
 obtain ⟨s3,bad3,b3,q3,p3,rfl⟩:=hM
 have l3:b3.length≤b2.length+wtPA fe:=q3.len
 refine sA ?_
 refine sp rfl<|sp rfl<|sp rfl<|sP (.pointer (some ⟨gx,f+35,none⟩)) ?_
 refine Sy.callT (λw hw=>mainHeader_w w0.inn gc gw gx (f+35) bad3 s3 R b3 cm mn h4 n4 Y3.left p3 (by show _+80≤_; omega) w hw) (λu M hM=>?_)
 obtain ⟨s4,bad4,b4,q4,p4,rfl⟩:=hM
 have l4:b4.length≤b3.length+80:=q4.len
 refine Sy.nil<|Sy.then_<|Sy.region ?_
 refine sp rfl<|sp rfl<|sp rfl<|sP (.pointer (some ⟨gx,f+101,none⟩)) ?_
 refine Sy.callT (λw hw=>list_w_ous (rep:=repOU) monoOU out_w w0.inn gc gw gx (f+101) 64 (by decide) bad4 s4 R b4 vc co h5 Y4.one p4 (by omega) w hw) (λu M hM=>?_)
 obtain ⟨s5,bad5,b5,q5,p5,rfl⟩:=hM
 refine Sy.nil ?_
 have q:=q1.then_ (q2.then_ (q3.then_ (q4.then_ q5)))
 rw [Bool.true_and,Bool.true_and,Bool.true_and] at q
 exact Sy.retT0 rfl (CWS gc gw bad5 s5 R) (λ_ h=>h) (λ_=>⟨s5,bad5,b5,q,p5,rfl⟩)
theorem config_r:GetC 52 102 (Z32++([Value.int .u64 0]++(([Value.int .i64 0]++[Value.slice none 0 0])++((Z32++(Z32++([Value.int .u64 0]++[Value.int .u64 0])))++([Value.slice none 0 0]))))) repCF rdCF:=λw0 gc gr gx f tx A Z sl s R S hS hA he hl hv w hw=>by
 refine Sy.enterT (args:=[ptr gc,.pointer (some ⟨gx,f,none⟩)]) hw Tryz.func52 rfl kL ?_
 refine sC ?_
 refine sp rfl<|sp rfl<|sp rfl<|sP (.pointer (some ⟨gx,f,none⟩)) ?_
 refine Sy.callT (λw hw=>digest_r w0.inn gc gr gx f tx (A) ([Value.int .u64 0]++(([Value.int .i64 0]++[Value.slice none 0 0])++((Z32++(Z32++([Value.int .u64 0]++[Value.int .u64 0])))++([Value.slice none 0 0]++(Z))))) sl s (R) S hS hA he (hl) hv w (by simpa only [List.append_assoc] using hw)) (λu M hM=>?_)
 obtain ⟨x1,s1,sl1,cs1,N1,a1,n1,o1,⟨rfl,r1⟩,e1,h1,y1,rfl⟩:=hM
 have g1:s1.rest.length≤s.rest.length:=h1
 have A1:(A++(x1.map bv)).length=f+32:=by rw [List.length_append,hA,n1]
 refine sA ?_
 refine sp rfl<|sp rfl<|sp rfl<|sP (.pointer (some ⟨gx,f+32,none⟩)) ?_
 refine Sy.callT (λw hw=>long_r w0.inn gc gr gx (f+32) tx (A++(x1.map bv)) (([Value.int .i64 0]++[Value.slice none 0 0])++((Z32++(Z32++([Value.int .u64 0]++[Value.int .u64 0])))++([Value.slice none 0 0]++(Z)))) sl1 s1 (R++N1) S (λb h=>List.mem_append_left _ (hS b h)) A1 e1 (Nat.le_trans g1 hl) y1 w (by have e:A++(x1.map bv)++([Value.int .u64 0]++(([Value.int .i64 0]++[Value.slice none 0 0])++((Z32++(Z32++([Value.int .u64 0]++[Value.int .u64 0])))++([Value.slice none 0 0]++(Z)))))=A++(x1.map bv++([Value.int .u64 0]++(([Value.int .i64 0]++[Value.slice none 0 0])++((Z32++(Z32++([Value.int .u64 0]++[Value.int .u64 0])))++([Value.slice none 0 0]++(Z)))))):=List.append_assoc ..; rw [e]; exact hw)) (λu M hM=>?_)
 obtain ⟨x2,s2,sl2,cs2,N2,a2,n2,o2,⟨rfl,r2⟩,e2,h2,y2,rfl⟩:=hM
 have g2:s2.rest.length≤s.rest.length:=Nat.le_trans h2 g1
 have A2:(A++(x1.map bv)++[Value.int .u64 (x2:Int)]).length=f+33:=by rw [List.length_append,A1,n2]
 refine sA ?_
 refine sp rfl<|sp rfl<|sp rfl<|sP (.pointer (some ⟨gx,f+33,none⟩)) ?_
 refine Sy.callT (λw hw=>params_r w0.inn gc gr gx (f+33) tx (A++(x1.map bv)++[Value.int .u64 (x2:Int)]) ((Z32++(Z32++([Value.int .u64 0]++[Value.int .u64 0])))++([Value.slice none 0 0]++(Z))) sl2 s2 (R++N1++N2) S (λb h=>List.mem_append_left _ (List.mem_append_left _ (hS b h))) A2 e2 (Nat.le_trans g2 hl) y2 w (by have e:A++(x1.map bv)++[Value.int .u64 (x2:Int)]++(([Value.int .i64 0]++[Value.slice none 0 0])++((Z32++(Z32++([Value.int .u64 0]++[Value.int .u64 0])))++([Value.slice none 0 0]++(Z))))=A++(x1.map bv)++([Value.int .u64 (x2:Int)]++(([Value.int .i64 0]++[Value.slice none 0 0])++((Z32++(Z32++([Value.int .u64 0]++[Value.int .u64 0])))++([Value.slice none 0 0]++(Z))))):=List.append_assoc ..; rw [e]; exact hw)) (λu M hM=>?_)
 obtain ⟨x3,s3,sl3,cs3,N3,a3,n3,o3,r3,e3,h3,y3,rfl⟩:=hM
 have g3:s3.rest.length≤s.rest.length:=Nat.le_trans h3 g2
 have A3:(A++(x1.map bv)++[Value.int .u64 (x2:Int)]++(cs3)).length=f+35:=by rw [List.length_append,A2,n3]
 refine sA ?_
 refine sp rfl<|sp rfl<|sp rfl<|sP (.pointer (some ⟨gx,f+35,none⟩)) ?_
 refine Sy.callT (λw hw=>mainHeader_r w0.inn gc gr gx (f+35) tx (A++(x1.map bv)++[Value.int .u64 (x2:Int)]++(cs3)) ([Value.slice none 0 0]++(Z)) sl3 s3 (R++N1++N2++N3) S (λb h=>List.mem_append_left _ (List.mem_append_left _ (List.mem_append_left _ (hS b h)))) A3 e3 (Nat.le_trans g3 hl) y3 w (by have e:A++(x1.map bv)++[Value.int .u64 (x2:Int)]++(cs3)++((Z32++(Z32++([Value.int .u64 0]++[Value.int .u64 0])))++([Value.slice none 0 0]++(Z)))=A++(x1.map bv)++[Value.int .u64 (x2:Int)]++(cs3++((Z32++(Z32++([Value.int .u64 0]++[Value.int .u64 0])))++([Value.slice none 0 0]++(Z)))):=List.append_assoc ..; rw [e]; exact hw)) (λu M hM=>?_)
 obtain ⟨x4,s4,sl4,cs4,N4,a4,n4,o4,r4,e4,h4,y4,rfl⟩:=hM
 have g4:s4.rest.length≤s.rest.length:=Nat.le_trans h4 g3
 have A4:(A++(x1.map bv)++[Value.int .u64 (x2:Int)]++(cs3)++(cs4)).length=f+101:=by rw [List.length_append,A3,n4]
 refine Sy.nil<|Sy.then_<|Sy.region ?_
 refine sp rfl<|sp rfl<|sp rfl<|sP (.pointer (some ⟨gx,f+101,none⟩)) ?_
 refine Sy.callT (λw hw=>list_r_ous (rep:=repOU) (p:=rdOU) monoOU out_r w0.inn gc gr gx (f+101) 64 (by decide) tx (A++(x1.map bv)++[Value.int .u64 (x2:Int)]++(cs3)++(cs4)) (Z) sl4 s4 (R++N1++N2++N3++N4) S (λb h=>List.mem_append_left _ (List.mem_append_left _ (List.mem_append_left _ (List.mem_append_left _ (hS b h))))) A4 e4 (Nat.le_trans g4 hl) y4 w (by have e:A++(x1.map bv)++[Value.int .u64 (x2:Int)]++(cs3)++(cs4)++([Value.slice none 0 0]++(Z))=A++(x1.map bv)++[Value.int .u64 (x2:Int)]++(cs3)++(cs4++([Value.slice none 0 0]++(Z))):=List.append_assoc ..; rw [e]; exact hw)) (λu M hM=>?_)
 obtain ⟨x5,s5,sl5,cs5,N5,a5,n5,o5,⟨v5,rfl,r5⟩,e5,h5,y5,rfl⟩:=hM
 have g5:s5.rest.length≤s.rest.length:=Nat.le_trans h5 g4
 have A5:(A++(x1.map bv)++[Value.int .u64 (x2:Int)]++(cs3)++(cs4)++[v5]).length=f+102:=by rw [List.length_append,A4,n5]
 refine Sy.nil ?_
 have hAf:After rdCF s ⟨x1,x2,x3,x4,x5⟩ s5:=a1.bind (a2.bind (a3.bind (a4.bind (a5.bind (After.ret _ _)))))
 have hLn:(x1.map bv++([Value.int .u64 (x2:Int)]++(cs3++(cs4++([v5]))))).length=102:=by simp only [List.length_append,n1,n3,n4]; rfl
 have hOn:∀ u∈(x1.map bv++([Value.int .u64 (x2:Int)]++(cs3++(cs4++([v5]))))),u.oneCell'=true:=ones_app o1 (ones_app o2 (ones_app o3 (ones_app o4 o5)))
 have hRp:repCF (rdB (N1++(N2++(N3++(N4++N5))))) (x1.map bv++([Value.int .u64 (x2:Int)]++(cs3++(cs4++([v5]))))) ⟨x1,x2,x3,x4,x5⟩:=⟨cs3,cs4,v5,rfl,r1,r2,monoPA (rdB_le λb h=>by simp [h]) r3,r4,LstR.le (rep:=repOU) monoOU (rdB_le λb h=>by simp [h]) r5⟩
 exact Sy.retT0 rfl (CRS gc gr gx tx (A++((x1.map bv++([Value.int .u64 (x2:Int)]++(cs3++(cs4++([v5])))))++Z)) sl5 s5.e (R++(N1++(N2++(N3++(N4++N5)))))) (λ_ h=>by simpa only [List.append_assoc,List.cons_append,List.nil_append] using h) (λ_=>⟨_,s5,sl5,_,_,hAf,hLn,hOn,hRp,e5,g5,y5,rfl⟩)
theorem oneCF {C:Rdr} {cs:List Value} {t:MCf} (h:repCF C cs t):∀ u∈cs,u.oneCell'=true:=by
 obtain ⟨cp,cm,vc,rfl,_,_,h3,h4,h5⟩:=h
 exact ones_app (ones_bW _) (ones_app (λu hu=>by rw [List.mem_singleton.1 hu]; rfl) (ones_app (onePA h3) (ones_app (oneMH h4) (λu hu=>by rw [List.mem_singleton.1 hu]; exact h5.cells.2))))
theorem write_cfg {α:Type} {rep:Rdr→List Value→α→Prop} {ok:α→Bool} {enc:α→Byt} {wt:α→Nat} (hm:Mono rep) (hp:PutC 52 102 rep ok enc wt) (w:World) (cs:List Value) (x:α) (hx:rep (rdW w) cs x) (hl:cs.length=102) (hwt:wt x≤70368744170000) :
  Calls Tryz.prog 53 #[.agg cs.toArray,.func (.func 52) #[] #[]] w (GetsN w (BytE (ok x) (enc x))):=by
 refine Sy.enter (args:=[.agg cs.toArray,.func (.func 52) #[] #[]]) Tryz.func53 rfl kL ?_
 refine sC ?_
 refine sM 73 cs.toArray (λgx=>?_) kR (λw=>run_boxR rfl rfl (by kernel_rfl) hl w)
 refine sP (.slice none 0 0)<|sP (.int .i64 0) ?_
 refine sA ?_
 refine Sy.callN kR 57 #[] kF _ (λw _=>new_any w) (λv M hM=>?_)
 obtain ⟨gw,rfl,rfl⟩:=hM
 refine sP (.agg #[ptr gw,.pointer none,.bool false])<|sM 134 #[ptr gw,.pointer none,.bool false] (λgc=>?_)
 refine sp rfl ?_
 refine sA ?_
 refine Sy.permS (M:=CWS gc gw false nilS [(gx,73,cs.toArray)]) (Sy.perm_at [2,1,0] (by kernel_rfl) (by rfl)) ?_
 refine sp rfl<|sp rfl ?_
 refine Sy.callT (λw' hw=>hp (Base.of w) gc gw gx 0 false nilS [(gx,73,cs.toArray)] [] cs x (hm rdW_base hx) hl (memX (List.mem_singleton.2 rfl)) BS.nil (by show 0+_≤_; omega) w' hw) (λv M hM=>?_)
 obtain ⟨s,bad,b,q1,q2,rfl⟩:=hM
 have hbl:b.length≤wt x:=by have:=q1.len; simpa using this
 refine sG<|Sy.seq<|sC ?_
 refine sp rfl<|sp rfl<|sP (.pointer (some ⟨gc,2,none⟩))<|sS (.bool bad) (qc 0 2 rfl rfl Tryz.underlying4) ?_
 refine sG ?_
 cases bad
 ·have hok:ok x=true:=by
   have e:=q1.bad
   cases h:ok x with
   | true=>rfl
   | false=>rw [h] at e; cases e
  obtain rfl:b=enc x:=by have:=q1.bytes rfl; simpa using this
  refine sU<|Sy.skip<|sB ?_
  refine sp rfl<|sp rfl<|sP (.pointer (some ⟨gc,0,none⟩))<|sS (ptr gw) (qc 0 0 rfl rfl Tryz.underlying130) ?_
  refine Sy.callT (λw' hw=>bytes_any (Base.of w) gw s ((gc,134,#[ptr gw,.pointer none,.bool false])::[(gx,73,cs.toArray)]) (enc x) q2 (by omega) w' (hw.perm permCW)) (λv M hM=>?_)
  obtain ⟨N,hN,rfl⟩:=hM
  refine sp rfl<|sP (.int .i64 0) ?_
  refine sG<|Sy.ret ?_
  exact Sy.retGM2 N rfl (.inl (show _=_ by kernel_rfl)) (.inl (show _=_ by kernel_rfl)) (λ_ h=>h.less (List.sublist_append_right _ _)) (.inl ⟨hok,v,rfl,hN⟩)
 ·have hok:ok x=false:=by
   have e:=q1.bad
   cases h:ok x with
   | false=>rfl
   | true=>rw [h] at e; cases e
  refine sT<|sC ?_
  refine sP (.slice none 0 0)<|sP (.int .i64 120) ?_
  refine sG<|Sy.ret<|Sy.then_ret ?_
  exact Sy.retGM2 [] rfl (.inl (show _=_ by kernel_rfl)) (.inl (show _=_ by kernel_rfl)) (λ_ h=>h.none) (.inr ⟨hok,rfl,rfl⟩)
theorem ex_cfg {α:Type} {rep:Rdr→List Value→α→Prop} {ok:α→Bool} {enc:α→Byt} {wt:α→Nat} (hm:Mono rep) (hp:PutC 52 102 rep ok enc wt) (w:World) (cs:List Value) (x:α) (hx:rep (rdW w) cs x) (hl:cs.length=102) (hwt:wt x≤70368744170000) :
  Calls Tryz.prog 24 #[.agg cs.toArray] w (GetsN w (BytE (ok x) (enc x))):=by
 refine Sy.enter (args:=[.agg cs.toArray]) Tryz.func24 rfl kL ?_
 refine sC ?_
 refine sM 73 cs.toArray (λgx=>?_) kR (λw=>run_boxR rfl rfl (by kernel_rfl) hl w)
 refine sP (.slice none 0 0)<|sP (.int .i64 0) ?_
 refine sA ?_
 refine sS (.agg cs.toArray) (rowC (R:=[(gx,73,cs.toArray)]) (memX (List.mem_singleton.2 rfl)) (λ_ h=>h) hl rfl Tryz.underlying73) ?_
 refine Sy.callN kR 53 #[.agg cs.toArray,.func (.func 52) #[] #[]] kF (BytE (ok x) (enc x)) (λw' hw=>write_cfg (rep:=rep) hm hp w' cs x (hm (λg o u h=>rdC_world (R:=[]) hw (λ_ h=>by cases h) g o u (.inl h)) hx) hl hwt) (λv M hM=>?_)
 have hv:∃ a e:Value,v=.tuple #[a,e]:=by
  rcases hM with ⟨_,u,rfl,_⟩ | ⟨_,rfl,_⟩ <;> exact ⟨_,_,rfl⟩
 obtain ⟨a,e,rfl⟩:=hv
 refine sp rfl<|sp rfl<|sp rfl<|sp rfl ?_
 refine sG<|Sy.ret ?_
 exact Sy.retGM2 M rfl (.inl (show _=_ by kernel_rfl)) (.inl (show _=_ by kernel_rfl)) (λ_ h=>h.less (List.sublist_append_right _ _)) hM
theorem read_cfg {α:Type} {rep:Rdr→List Value→α→Prop} {p:Ps α} (hm:Mono rep) (hp:GetC 52 102 (Z32++([Value.int .u64 0]++(([Value.int .i64 0]++[Value.slice none 0 0])++((Z32++(Z32++([Value.int .u64 0]++[Value.int .u64 0])))++([Value.slice none 0 0]))))) rep p) (w:World) (v:Value) (b:Byt) (hv:BytR (rdW w) v b) (hl:b.length≤70368744177664) :
  Calls Tryz.prog 51 #[v,.func (.func 52) #[] #[]] w (GetsN w (RdE 102 (Z32++([Value.int .u64 0]++(([Value.int .i64 0]++[Value.slice none 0 0])++((Z32++(Z32++([Value.int .u64 0]++[Value.int .u64 0])))++([Value.slice none 0 0]))))) rep (allP p b))):=by
 refine Sy.enter (args:=[v,.func (.func 52) #[] #[]]) Tryz.func51 rfl kL ?_
 refine sC ?_
 refine sM 73 (Z32++([Value.int .u64 0]++(([Value.int .i64 0]++[Value.slice none 0 0])++((Z32++(Z32++([Value.int .u64 0]++[Value.int .u64 0])))++([Value.slice none 0 0]))))).toArray (λg4=>?_)
 refine sP (.int .i64 0) ?_
 refine sA ?_
 refine sM 73 (Z32++([Value.int .u64 0]++(([Value.int .i64 0]++[Value.slice none 0 0])++((Z32++(Z32++([Value.int .u64 0]++[Value.int .u64 0])))++([Value.slice none 0 0]))))).toArray (λg6=>?_)
 refine sM 73 (Z32++([Value.int .u64 0]++(([Value.int .i64 0]++[Value.slice none 0 0])++((Z32++(Z32++([Value.int .u64 0]++[Value.int .u64 0])))++([Value.slice none 0 0]))))).toArray (λg7=>?_)
 refine sA ?_
 refine sp rfl ?_
 refine Sy.callN kR 67 #[v] kF _ (λw' hw=>read_any w' v b (hv.at hw) hl) (λu M hM=>?_)
 obtain ⟨gr,sl,N0,hN0,rfl,rfl⟩:=hM
 refine sP (.agg #[.pointer none,ptr gr,.bool false])<|sM 134 #[.pointer none,ptr gr,.bool false] (λgc=>?_)
 refine Sy.permS (M:=CRS gc gr g6 73 ([]++((Z32++([Value.int .u64 0]++(([Value.int .i64 0]++[Value.slice none 0 0])++((Z32++(Z32++([Value.int .u64 0]++[Value.int .u64 0])))++([Value.slice none 0 0])))))++[])) sl 0 ((g4,73,(Z32++([Value.int .u64 0]++(([Value.int .i64 0]++[Value.slice none 0 0])++((Z32++(Z32++([Value.int .u64 0]++[Value.int .u64 0])))++([Value.slice none 0 0]))))).toArray)::(g7,73,(Z32++([Value.int .u64 0]++(([Value.int .i64 0]++[Value.slice none 0 0])++((Z32++(Z32++([Value.int .u64 0]++[Value.int .u64 0])))++([Value.slice none 0 0]))))).toArray)::N0)) (Sy.flat_perm (ls:=[[(g4,73,(Z32++([Value.int .u64 0]++(([Value.int .i64 0]++[Value.slice none 0 0])++((Z32++(Z32++([Value.int .u64 0]++[Value.int .u64 0])))++([Value.slice none 0 0]))))).toArray)],[(g6,73,(Z32++([Value.int .u64 0]++(([Value.int .i64 0]++[Value.slice none 0 0])++((Z32++(Z32++([Value.int .u64 0]++[Value.int .u64 0])))++([Value.slice none 0 0]))))).toArray)],[(g7,73,(Z32++([Value.int .u64 0]++(([Value.int .i64 0]++[Value.slice none 0 0])++((Z32++(Z32++([Value.int .u64 0]++[Value.int .u64 0])))++([Value.slice none 0 0]))))).toArray)],[(gr,253,#[sl,.int .i64 0])],N0,[(gc,134,#[.pointer none,ptr gr,.bool false])]]) (ms:=[[(gc,134,#[.pointer none,ptr gr,.bool false])],[(g6,73,(Z32++([Value.int .u64 0]++(([Value.int .i64 0]++[Value.slice none 0 0])++((Z32++(Z32++([Value.int .u64 0]++[Value.int .u64 0])))++([Value.slice none 0 0]))))).toArray)],[(gr,253,#[sl,.int .i64 0])],[(g4,73,(Z32++([Value.int .u64 0]++(([Value.int .i64 0]++[Value.slice none 0 0])++((Z32++(Z32++([Value.int .u64 0]++[Value.int .u64 0])))++([Value.slice none 0 0]))))).toArray)],[(g7,73,(Z32++([Value.int .u64 0]++(([Value.int .i64 0]++[Value.slice none 0 0])++((Z32++(Z32++([Value.int .u64 0]++[Value.int .u64 0])))++([Value.slice none 0 0]))))).toArray)],N0]) [5,1,3,0,2,4] (by kernel_rfl) (by rfl) (by simp) (by simp)) ?_
 refine sp rfl ?_
 refine sA ?_
 refine sp rfl<|sp rfl ?_
 refine Sy.callT (λw' hw=>hp (Base.of w) gc gr g6 0 73 [] [] sl ⟨b,0⟩ ((g4,73,(Z32++([Value.int .u64 0]++(([Value.int .i64 0]++[Value.slice none 0 0])++((Z32++(Z32++([Value.int .u64 0]++[Value.int .u64 0])))++([Value.slice none 0 0]))))).toArray)::(g7,73,(Z32++([Value.int .u64 0]++(([Value.int .i64 0]++[Value.slice none 0 0])++((Z32++(Z32++([Value.int .u64 0]++[Value.int .u64 0])))++([Value.slice none 0 0]))))).toArray)::N0) N0 (λx h=>List.mem_cons_of_mem _ (List.mem_cons_of_mem _ h)) rfl (Nat.zero_le _) hl (hN0.byt.le rdB_base) w' hw) (λu M hM=>?_)
 obtain ⟨x,s',sl',cs,N,q1,q2,q3,q4,q5,q6,q7,rfl⟩:=hM
 rw [List.append_nil]
 obtain ⟨o1,o2⟩:=all_of q1
 obtain ⟨e,hE⟩:∃ e,e=if s'.e=0∧0<s'.rest.length then 113 else s'.e:=⟨_,rfl⟩
 have hEl:e≤200:=by rw [hE]; split <;> omega
 refine sG<|Sy.seq<|sC ?_
 obtain ⟨b1,hb1⟩:∃ z:Bool,z=decide (e≠0):=⟨_,rfl⟩
 refine sp rfl<|sp rfl<|sP (.pointer (some ⟨gc,1,none⟩))<|sS (ptr gr) (qc 0 1 rfl rfl Tryz.underlying132)<|sS (.int .i64 (e:Int)) (qg (λw' hw=>by rw [hE]; exact end_any (Base.of w) gr sl' s' N0 q5 q7 (List.mem_cons_of_mem _ (List.mem_cons_of_mem _ (List.mem_cons_self ..))) w' hw))<|sS (.bool b1) (Quiet.pure (exec_int .neq _ _ _ .i64 _ _ _ rfl rfl rfl (int_neq _ _ _ _ _ (by rw [hb1]; exact decide_eq_decide.2 (by omega))))) ?_
 refine sG ?_
 cases b1
 ·have l1:e=0:=Decidable.of_not_not (of_decide_eq_false hb1.symm)
  have l2:s'.e=0∧s'.rest=[]:=by
   by_cases h:s'.e=0∧0<s'.rest.length
   ·rw [if_pos h] at hE; omega
   ·rw [if_neg h] at hE
    exact ⟨by omega,List.eq_nil_of_length_eq_zero (by omega)⟩
  refine sU<|Sy.skip<|sB ?_
  refine sS (.agg cs.toArray) (Quiet.mid 1 g6 0 102 73 73 cs cs _ _ rfl kR rfl Tryz.underlying73 rfl kR (by rw [List.drop_zero,List.take_of_length_le (by omega)]) (by omega))<|sw 3 rfl cs.toArray (Writes.row 73 cs 102 _ _ rfl kR kR kR q2 (by kernel_rfl) q3)<|sP (.int .i64 0) ?_
  refine sG<|Sy.ret ?_
  exact Sy.retGM2 N rfl (.inl (Sy.Res.cell (ty':=73) g4 3 cs.toArray _ (by kernel_rfl) rfl Tryz.underlying73 rfl (by rw [List.size_toArray,q2]; kernel_rfl) rfl)) (.inl (show _=_ by kernel_rfl)) (λ_ h=>h.less (List.sublist_append_right [(gc,134,#[.pointer none,ptr gr,.bool false]),(g6,73,cs.toArray),(gr,253,#[sl',.int .i64 (s'.e:Int)]),(g4,73,cs.toArray),(g7,73,(Z32++([Value.int .u64 0]++(([Value.int .i64 0]++[Value.slice none 0 0])++((Z32++(Z32++([Value.int .u64 0]++[Value.int .u64 0])))++([Value.slice none 0 0]))))).toArray)] (N0++N) |> λh1=>(List.sublist_append_right N0 N).trans h1)) (.inl ⟨x,cs,o1 l2.1 l2.2,rfl,q2,q4⟩)
 ·have l1:e≠0:=of_decide_eq_true hb1.symm
  have l2:s'.e≠0∨s'.rest≠[]:=by
   by_cases h:s'.e=0∧0<s'.rest.length
   ·exact .inr (λe=>by rw [e] at h; exact absurd h.2 (by decide))
   ·rw [if_neg h] at hE; exact .inl (by omega)
  refine sT<|sC ?_
  refine sS (.agg (Z32++([Value.int .u64 0]++(([Value.int .i64 0]++[Value.slice none 0 0])++((Z32++(Z32++([Value.int .u64 0]++[Value.int .u64 0])))++([Value.slice none 0 0]))))).toArray) (qk 4 0 102 rfl rfl Tryz.underlying73)<|sw 3 rfl (Z32++([Value.int .u64 0]++(([Value.int .i64 0]++[Value.slice none 0 0])++((Z32++(Z32++([Value.int .u64 0]++[Value.int .u64 0])))++([Value.slice none 0 0]))))).toArray (wA rfl)<|sP (.int .i64 120) ?_
  refine sG<|Sy.ret<|Sy.then_ret ?_
  exact Sy.retGM2 [] rfl (.inl (Sy.Res.cell (ty':=73) g4 3 (Z32++([Value.int .u64 0]++(([Value.int .i64 0]++[Value.slice none 0 0])++((Z32++(Z32++([Value.int .u64 0]++[Value.int .u64 0])))++([Value.slice none 0 0]))))).toArray _ (by kernel_rfl) rfl Tryz.underlying73 rfl (by kernel_rfl) rfl)) (.inl (show _=_ by kernel_rfl)) (λ_ h=>h.none) (.inr ⟨o2 l2,rfl,rfl⟩)
theorem rdx_cfg {α:Type} {rep:Rdr→List Value→α→Prop} {p:Ps α} (hm:Mono rep) (hone:∀ {C:Rdr} {cs:List Value} {x:α},rep C cs x→∀ u∈cs,u.oneCell'=true) (hp:GetC 52 102 (Z32++([Value.int .u64 0]++(([Value.int .i64 0]++[Value.slice none 0 0])++((Z32++(Z32++([Value.int .u64 0]++[Value.int .u64 0])))++([Value.slice none 0 0]))))) rep p) (w:World) (v:Value) (b:Byt) (hv:BytR (rdW w) v b) (hl:b.length≤70368744177664) :
  Calls Tryz.prog 23 #[v] w (GetsN w (RdE 102 (Z32++([Value.int .u64 0]++(([Value.int .i64 0]++[Value.slice none 0 0])++((Z32++(Z32++([Value.int .u64 0]++[Value.int .u64 0])))++([Value.slice none 0 0]))))) rep (allP p b))):=by
 refine Sy.enter (args:=[v]) Tryz.func23 rfl kL ?_
 refine sC ?_
 refine sM 73 (Z32++([Value.int .u64 0]++(([Value.int .i64 0]++[Value.slice none 0 0])++((Z32++(Z32++([Value.int .u64 0]++[Value.int .u64 0])))++([Value.slice none 0 0]))))).toArray (λg2=>?_)
 refine sP (.int .i64 0) ?_
 refine sA ?_
 refine sp rfl ?_
 refine Sy.callN kR 51 #[v,.func (.func 52) #[] #[]] kF _ (λw' hw=>read_cfg (rep:=rep) (p:=p) hm hp w' v b (hv.at hw) hl) (λu M hM=>?_)
 rcases hM with ⟨x,cs,o1,rfl,q2,q4⟩ | ⟨o1,rfl,rfl⟩
 ·have q3:∀ u∈cs,u.oneCell'=true:=hone q4
  refine sp rfl<|sp rfl<|sw 0 rfl cs.toArray (Writes.row 73 cs 102 _ _ rfl kR kR kR q2 (by kernel_rfl) q3)<|sp rfl ?_
  refine sG<|Sy.ret ?_
  exact Sy.retGM2 M rfl (.inl (Sy.Res.cell (ty':=73) g2 0 cs.toArray _ (by kernel_rfl) rfl Tryz.underlying73 rfl (by rw [List.size_toArray,q2]; kernel_rfl) rfl)) (.inl (show _=_ by kernel_rfl)) (λ_ h=>h.less (List.sublist_cons_self _ _)) (.inl ⟨x,cs,o1,rfl,q2,q4⟩)
 ·refine sp rfl<|sp rfl<|sw 0 rfl (Z32++([Value.int .u64 0]++(([Value.int .i64 0]++[Value.slice none 0 0])++((Z32++(Z32++([Value.int .u64 0]++[Value.int .u64 0])))++([Value.slice none 0 0]))))).toArray (wA rfl)<|sp rfl ?_
  refine sG<|Sy.ret ?_
  exact Sy.retGM2 [] rfl (.inl (Sy.Res.cell (ty':=73) g2 0 (Z32++([Value.int .u64 0]++(([Value.int .i64 0]++[Value.slice none 0 0])++((Z32++(Z32++([Value.int .u64 0]++[Value.int .u64 0])))++([Value.slice none 0 0]))))).toArray _ (by kernel_rfl) rfl Tryz.underlying73 rfl (by kernel_rfl) rfl)) (.inl (show _=_ by kernel_rfl)) (λ_ h=>h.none) (.inr ⟨o1,rfl,rfl⟩)
end Wr
end
section
namespace Wr
open Go.RowKit Sy
set_option maxRecDepth 100000
set_option maxHeartbeats 4000000
end Wr
end
section
namespace Wr
open Go.RowKit Sy
set_option maxRecDepth 100000
set_option maxHeartbeats 4000000
end Wr
end
section
namespace Wr
open Go.RowKit Sy
set_option maxRecDepth 100000
set_option maxHeartbeats 4000000
end Wr
end
section
namespace Wr
open Go.RowKit Sy
set_option maxRecDepth 100000
set_option maxHeartbeats 4000000
end Wr
end
section
namespace Wr
open Go.RowKit Sy
set_option maxRecDepth 100000
set_option maxHeartbeats 4000000
end Wr
end
section
namespace Wr
open Go.RowKit Sy
set_option maxRecDepth 100000
set_option maxHeartbeats 4000000
end Wr
end
section
namespace Wr
open Go.RowKit Sy
set_option maxRecDepth 100000
set_option maxHeartbeats 4000000
end Wr
end
section
namespace Wr
open Go.RowKit Sy
set_option maxRecDepth 100000
set_option maxHeartbeats 4000000
end Wr
end
section
namespace Wr
open Go.RowKit Sy
set_option maxRecDepth 100000
set_option maxHeartbeats 4000000
end Wr
end
section
namespace Wr
open Go.RowKit Sy
set_option maxRecDepth 100000
set_option maxHeartbeats 4000000
end Wr
end
section
namespace Wr
open Go.RowKit Sy
set_option maxRecDepth 100000
set_option maxHeartbeats 4000000
end Wr
end
section
namespace Wr
open Go.RowKit Sy
set_option maxRecDepth 100000
set_option maxHeartbeats 4000000
end Wr
end
section
namespace Cu
open Go.RowKit Sy
set_option maxRecDepth 100000
set_option maxHeartbeats 4000000
section
variable {P:Program} {w0:Base} {n:Nat} {F:Slots} {L:Blocks}
end
end Cu
end
section
section
open Go.RowKit Go.Lib
end
end
section
namespace Sy
open Go.RowKit
section
variable {P:Program} {w0:Base} {n:Nat} {Q:Exit→Act→World→Prop} {F:Slots} {L:Blocks}
end
end Sy
end
section
namespace Cu
open Go.RowKit Sy
end Cu
end
section
namespace Cu
open Go.RowKit Sy
set_option maxRecDepth 100000
set_option maxHeartbeats 4000000
section
variable {P:Program} {w0:Base} {F:Slots} {L:Blocks} {o:Oper}
end
end Cu
end
section
namespace Wr
open Go.RowKit Sy
set_option maxRecDepth 100000
set_option maxHeartbeats 4000000
end Wr
end
section
namespace Wr
open Go.RowKit Sy
set_option maxRecDepth 100000
set_option maxHeartbeats 4000000
end Wr
end
section
namespace Wr
open Go.RowKit Sy
set_option maxRecDepth 100000
set_option maxHeartbeats 4000000
end Wr
end
section
namespace Wr
open Go.RowKit Sy
set_option maxRecDepth 100000
set_option maxHeartbeats 4000000
end Wr
end
section
namespace Wr
open Go.RowKit Sy
set_option maxRecDepth 100000
set_option maxHeartbeats 4000000
end Wr
end
section
namespace Wr
open Go.RowKit Sy
set_option maxRecDepth 100000
set_option maxHeartbeats 4000000
end Wr
end
section
namespace Wr
open Go.RowKit Sy
set_option maxRecDepth 100000
set_option maxHeartbeats 4000000
end Wr
end
section
namespace Wr
open Go.RowKit Sy
set_option maxRecDepth 100000
set_option maxHeartbeats 4000000
end Wr
end
section
namespace Wr
open Go.RowKit Sy
set_option maxRecDepth 100000
set_option maxHeartbeats 4000000
theorem conv_48 (w:World) (F:Slots) (o:Oper) (x:Operand) (n:Nat) (hn:n<4294967296) (ho:o.op=.convert 140 22 x) (hx:evF F x=.int .u32 (n:Int)):(execOp (evF F) o).run Tryz.prog w=.ok (.value (.int .u64 (n:Int))) w:=by
 have h:(convert 140 22 (.int .u32 (n:Int))).run Tryz.prog w=.ok (.int .u64 (n:Int)) w:=by
  go_simp
  unfold IntKind.wrap
  simp [IntKind.signed,IntKind.bits]
  omega
 unfold execOp
 simp only [ho,hx,Sem.run_bind,h,Result.andThen_ok,Sem.run_pure]
theorem conv_84 (w:World) (F:Slots) (o:Oper) (x:Operand) (n:Nat) (hn:n<4294967296) (ho:o.op=.convert 22 140 x) (hx:evF F x=.int .u64 (n:Int)):(execOp (evF F) o).run Tryz.prog w=.ok (.value (.int .u32 (n:Int))) w:=by
 have h:(convert 22 140 (.int .u64 (n:Int))).run Tryz.prog w=.ok (.int .u32 (n:Int)) w:=by
  go_simp
  unfold IntKind.wrap
  simp [IntKind.signed,IntKind.bits]
  omega
 unfold execOp
 simp only [ho,hx,Sem.run_bind,h,Result.andThen_ok,Sem.run_pure]
theorem word_any (w0:Base) (gw:Nat) (s:Slc) (R:Blocks) (b:Byt) (n:Nat) (hn:n<4294967296) (hb:BS s b) (hl:b.length≤70368744177664) (w:World) (hw:St w0 w (WS gw s R)) :
  Calls Tryz.prog 202 #[ptr gw,.int .u32 (n:Int)] w (Turns w0 (Wr gw R (b++nb 4 n))):=by
 refine Sy.enterT (args:=[ptr gw,.int .u32 (n:Int)]) hw Tryz.func202 rfl kL ?_
 refine Sy.region ?_
 refine sp rfl<|sp rfl<|sS (.int .u64 (n:Int)) (Quiet.pure (λw=>conv_48 w _ _ _ n hn rfl rfl)) ?_
 refine Sy.callT (λw hw=>fixed_any _ gw s R b n 4 (by omega) (by decide) hb hl w hw) (λv M hM=>?_)
 obtain ⟨s1,hs1,rfl⟩:=hM
 refine Sy.nil ?_
 exact Sy.retT0 rfl (WS gw s1 R) (λ_ h=>h) (λ_=>⟨s1,hs1,rfl⟩)
theorem word_w (w0:Base) (gc gw gx f:Nat) (bad:Bool) (s:Slc) (R:Blocks) (b:Byt) (n:Nat) (hn:n<4294967296) (hc:rdC w0 R gx f (.int .u32 (n:Int))) (hb:BS s b) (hl:b.length+4≤70368744177000) (w:World) (hw:St w0 w (CWS gc gw bad s R)) :
  Calls Tryz.prog 166 #[ptr gc,.pointer (some ⟨gx,f,none⟩)] w (Turns w0 (WrC gc gw R true (nb 4 n) 4 bad b)):=by
 have item:∀ w,St w0.inn w (CWS gc gw bad s R)→Calls Tryz.prog 201 #[ptr gc,.pointer (some ⟨gx,f,none⟩),.func (.func 202) #[] #[],.func (.func 203) #[] #[]] w (Turns w0.inn (WrC gc gw R true (nb 4 n) 4 bad b)):=λw hw=>by
  refine Sy.enterT (args:=[ptr gc,.pointer (some ⟨gx,f,none⟩),.func (.func 202) #[] #[],.func (.func 203) #[] #[]]) hw Tryz.func201 rfl kL ?_
  refine sC ?_
  refine sp rfl<|sS (.bool false) (qg (λw hw=>reads_w w0.inn gc _ _ (List.mem_cons_self ..) w hw)) ?_
  refine sG<|sU ?_
  refine Sy.regionD (λj=>j == 8) kR ?_
  refine sa 0 rfl rfl<|sa 1 rfl rfl<|sa 2 rfl rfl<|sb 3 rfl (.pointer (some ⟨gc,0,none⟩))<|sD 4 rfl (ptr gw) (qc 0 0 rfl rfl Tryz.underlying130)<|sa 5 rfl rfl<|sa 6 rfl rfl<|sD 7 rfl (.int .u32 (n:Int)) (cellC (R:=R) hc inCW rfl Tryz.underlying140) ?_
  refine Sy.soleD 8 rfl (λQ2 hq2=>?_)
  refine Sy.callT (λw hw=>word_any w0.inn gw s ((gc,134,#[ptr gw,.pointer none,.bool bad])::R) b n hn hb (by omega) w (hw.perm permCW)) (λu M hM=>?_)
  obtain ⟨s1,hs1,rfl⟩:=hM
  refine Sy.permS permCW.symm ?_
  refine hq2 _ _ ?_
  refine sE ?_
  exact Sy.retT0 rfl (CWS gc gw bad s1 R) (λ_ h=>h) (λ_=>⟨s1,bad,b++nb 4 n,Wrote.raw _ bad b (by rw [nb_len]; exact Nat.le_refl _),hs1,rfl⟩)
 refine Sy.enterT (args:=[ptr gc,.pointer (some ⟨gx,f,none⟩)]) hw Tryz.func166 rfl kL ?_
 refine Sy.region ?_
 refine sp rfl<|sp rfl ?_
 refine Sy.callT (λw hw=>item w hw) (λu M hM=>?_)
 obtain ⟨s1,bad1,b1,h1,h2,rfl⟩:=hM
 refine Sy.nil ?_
 exact Sy.retT0 rfl (CWS gc gw bad1 s1 R) (λ_ h=>h) (λ_=>⟨s1,bad1,b1,h1,h2,rfl⟩)
def rep32 (_:Rdr) (cs:List Value) (n:Nat):Prop:=cs=[.int .u32 (n:Int)]∧n<4294967296
theorem word9_any (w0:Base) (gr:Nat) (sl:Value) (s:RS) (R S:Blocks) (hS:∀ b∈S,b∈R) (he0:s.e≤200) (hv:BytR (rdC w0 S) sl s.rest) (w:World) (hw:St w0 w (RQ gr sl s.e R)) :
  Calls Tryz.prog 203 #[ptr gr] w (Turns w0 (Rdd (numP 4) (λx v=>v=.int .u32 (x:Int)∧x<4294967296) w0 gr R S s)):=by
 obtain ⟨f,hf⟩:∃ f,f=fxN s.rest 4:=⟨_,rfl⟩
 obtain ⟨q1,q2,q3⟩:=fxN_fit s.rest 4 (by decide)
 have hy:=@fx_yes s.rest 4
 have hno:=@fx_no s.rest 4
 have hlt:f.1<4294967296:=by
  rw [hf]
  unfold fxN
  split
  ·decide
  ·have h:=said_lt (s.rest.take 4)
   have h2:256 ^ (s.rest.take 4).length≤256 ^ 4:=Nat.pow_le_pow_right (by decide) (by rw [List.length_take]; omega)
   exact Nat.lt_of_lt_of_le h h2
 rw [← hf] at q1 q2 q3 hy hno
 refine Sy.enterT (args:=[ptr gr]) hw Tryz.func203 rfl kL ?_
 refine sC ?_
 refine sP (.int .u32 0) ?_
 refine sA ?_
 refine sp rfl<|sp rfl<|sp rfl<|sP (.pointer (some ⟨gr,0,none⟩))<|sS sl (qc 0 0 rfl rfl Tryz.underlying27)<|sS (t3V f) (qg (λw' hw=>by rw [hf]; exact fixedR_any w' _ _ 4 (by decide) (by decide) (hv.le (rdC_world (w0:=w0.inn) hw (λ_ h=>List.mem_cons_of_mem _ (hS _ h))))))<|sp rfl<|sp rfl<|sp rfl ?_
 refine Sy.callT (λw hw=>number_any (numP 4) w0.inn gr sl s R S hS f.1 f.2.1 f.2.2 he0 q3 (by omega) q1 (λh=>⟨(hy h).1,(hy h).2.1⟩) hno hv w hw) (λv M hM=>?_)
 obtain ⟨x,s',sl',hA,⟨rfl,hx⟩,h2,h3,h4,rfl⟩:=hM
 refine sS (.int .u32 (x:Int)) (Quiet.pure (λw=>conv_84 w _ _ _ x (by omega) rfl rfl))<|sp rfl ?_
 refine sG<|Sy.ret ?_
 exact Sy.retT1 (RQ gr sl' s'.e R) rfl (.inl (show _=_ by kernel_rfl)) (λ_ h=>h) ⟨x,s',sl',hA,⟨rfl,by omega⟩,h2,h3,h4,rfl⟩
theorem word_r:GetC 166 1 [.int .u32 0] rep32 (numP 4):=λw0 gc gr gx f tx A Z sl s R S hS hA he hl hv w hw=>by
 have item:∀ w,St w0.inn w (CRS gc gr gx tx (A++([Value.int .u32 0]++Z)) sl s.e R)→Calls Tryz.prog 201 #[ptr gc,.pointer (some ⟨gx,f,none⟩),.func (.func 202) #[] #[],.func (.func 203) #[] #[]] w (Turns w0.inn (RdT 1 rep32 (numP 4) w0.inn gc gr gx tx A Z s R S)):=λw hw=>by
  refine Sy.enterT (args:=[ptr gc,.pointer (some ⟨gx,f,none⟩),.func (.func 202) #[] #[],.func (.func 203) #[] #[]]) hw Tryz.func201 rfl kL ?_
  refine sC ?_
  refine sp rfl<|sS (.bool true) (qg (λw hw=>reads_r w0.inn gc gr _ _ (List.mem_cons_self ..) w hw)) ?_
  refine sG<|sT<|Sy.region ?_
  refine sp rfl<|sp rfl<|sp rfl<|sp rfl<|sP (.pointer (some ⟨gc,1,none⟩))<|sS (ptr gr) (qc 0 1 rfl rfl Tryz.underlying132) ?_
  refine Sy.callT (λw hw=>word9_any w0.inn gr sl s ((gc,134,#[.pointer none,ptr gr,.bool false])::(gx,tx,(A++([Value.int .u32 0]++Z)).toArray)::R) S (λb h=>List.mem_cons_of_mem _ (List.mem_cons_of_mem _ (hS b h))) he hv w (hw.perm permCR)) (λu M hM=>?_)
  obtain ⟨x,s',sl',q1,⟨rfl,q2⟩,q3,q4,q5,rfl⟩:=hM
  refine Sy.permS permCR.symm ?_
  refine sp rfl<|sw 1 rfl (A++([Value.int .u32 (x:Int)]++Z)).toArray (Writes.one f 140 (.int .u32 (x:Int)) _ _ rfl kR kR kR rfl rfl (by rw [List.size_toArray,List.length_append,hA]; exact Nat.lt_add_of_pos_right (Nat.succ_pos _)) (set_mid hA)) ?_
  refine Sy.nil ?_
  exact Sy.retT0 rfl (CRS gc gr gx tx (A++([Value.int .u32 (x:Int)]++Z)) sl' s'.e R) (λ_ h=>h) (λ_=>⟨x,s',sl',[Value.int .u32 (x:Int)],[],q1,rfl,λu hu=>by rw [List.mem_singleton.1 hu]; rfl,⟨rfl,q2⟩,q3,q4,q5,by rw [List.append_nil]⟩)
 refine Sy.enterT (args:=[ptr gc,.pointer (some ⟨gx,f,none⟩)]) hw Tryz.func166 rfl kL ?_
 refine Sy.region ?_
 refine sp rfl<|sp rfl ?_
 refine Sy.callT (λw hw=>item w hw) (λu M hM=>?_)
 refine Sy.nil ?_
 have hM':=hM
 obtain ⟨x,s',sl',cs,N,q1,q2,q3,q4,q5,q6,q7,rfl⟩:=hM'
 exact Sy.retT0 rfl _ (λ_ h=>h) (λ_=>hM)
end Wr
end
section
namespace Sc
open Go.RowKit
def pM:Nat:=115792089237316195423570985008687907852837564279074904382605163141518161494337
theorem pM_eq:pM=115792089237316195423570985008687907852837564279074904382605163141518161494337:=rfl
theorem mod_lt (n:Nat):n%pM<(2^256):=by have:=Nat.mod_lt n (show 0<pM by decide); rw [pM_eq] at this ⊢; omega
theorem mod_lt_p (n:Nat):n%pM<pM:=Nat.mod_lt n (by decide)
end Sc
end
end Go.Proofs.YtdbcombmmnihbaaGreat
