/-
  Texts of ours, put together: WirDB, WirDC, WirDD, WirDE, WirXD, WirCD, WirDF, WirDG, WirEA, WirEB, WirP, WirQ, WirR, WirS, WirT, WirU, WirV, WirW, WirBC.
-/
import Derived.Test.YtdbcombmmnihbaaGreatWB5
set_option linter.unusedVariables false
set_option linter.unusedSimpArgs false
set_option maxRecDepth 100000
set_option maxHeartbeats 40000000
namespace Go.Proofs.YtdbcombmmnihbaaGreat
section
namespace Wr
open Go.RowKit Sy
theorem wMd {P:Program} {F:AJ} {o:Oper} {g:Nat} {t:TypeId} (ty:TypeId) (A z v Z:List Value) (k f:Nat) (x y:Operand) (ho:o.op=.store ty x y) (hx:evF F x=pT g f) (hy:evF F y=.agg v.toArray) (hi:(P.info? ty).map (·.size)=some k) (hA:A.length=f) (hz:z.length=k) (hv:v.length=k) (h1:∀ u∈v,u.oneCell'=true):Sy.Writes P F o g t (A++(z++Z)).toArray (A++(v++Z)).toArray :=
 Sy.Writes.store f ty v.toArray x y ho hx hy (by rw [hi,List.size_toArray,hv]) (by rw [List.size_toArray,List.size_toArray,List.length_append,List.length_append]; omega) (by rw [List.all_toArray,List.all_eq_true]; exact h1) (by show B' _ f v=_; exact Di hA om)
theorem Cc {A v Z:List Value} {f k:Nat} (hA:A.length=f) (hv:v.length=k):((A++(v++Z)).drop f).take k=v:=by
 subst hA hv
 rw [List.drop_left,List.take_left]
def VJ (n:Nat) (_:Rdr) (cs:List Value) (b:Byt):Prop:=cs=b.map bv∧b.length=n
theorem Ll (n:Nat) (hn:n≤1000000) (hn0:0<n) (w0:Base) (gc gr gx f:Nat) (tx:TypeId) (A Z:List Value) (y:Byt) (hy:y.length=n) (sl:Value) (s:RS) (R S:AA) (hS:∀ b∈S,b∈R) (hA:A.length=f) (he:s.e≤200) (hl:s.rest.length≤70368744177664) (hv:BytR (rdC w0 S) sl s.rest) (w:World) (hw:St w0 w (CRS gc gr gx tx (A++(y.map bv++Z)) sl s.e R)) :
  AL 139 #[ptr gc,.slice (some ⟨gx,f,none⟩) n n] w (AQ w0 (RdT n (VJ n) (An n) w0 gc gr gx tx A Z s R S)):=by
 refine Sy.enterT (args:=[ptr gc,.slice (some ⟨gx,f,none⟩) n n]) hw Tryz.func139 J kL<|sC<|sp J<|sS (.bool true) (qg (λw hw=>Cs w0.inn gc gr _ _ (List.mem_cons_self ..) w hw))<|sG<|sT<|Sy.region<|sp J<|sp J<|sp J<|sP (pT gc 1)<|sS (ptr gr) (qc 0 1 J J CV)<|sp J<|sP (.int .i64 (n:Int))<|Sy.callT (λw hw=>Kg w0.inn gr sl s ((gc,134,#[.pointer none,ptr gr,.bool false])::(gx,tx,(A++(y.map bv++Z)).toArray)::R) S (λb h=>List.mem_cons_of_mem _ (List.mem_cons_of_mem _ (hS b h))) n hn he hl hv w (hw.perm permCR)) (λu M hM=>?_)
 obtain ⟨x,s',sl',N,q1,⟨q2,q2'⟩,q3,q4,q5,rfl⟩:=hM
 refine Sy.permS (M:=CRS gc gr gx tx (A++(y.map bv++Z)) sl' s'.e (R++N)) permCR.symm ?_
 have hyb:∀ u∈y.map bv,u.oneCell'=true:=Bv y
 rcases q2' with ⟨rfl,rfl,rfl⟩ | hx
 ·refine sS (.int .i64 0) (Quiet.pure (λw=>Nk w _ _ _ _ gx f n J J J)) ?_
  refine Sy.nil ?_
  exact Sy.retT0 J (CRS gc gr gx tx (A++(y.map bv++Z)) sl' s'.e (R++[])) (λ_ h=>h) (λ_=>⟨y,s',sl',y.map bv,[],q1.as (λr hp=>by have:=(EB hp).1; rw [List.length_nil] at this; omega),by rw [List.length_map,hy],hyb,⟨rfl,hy⟩,q3,q4,q5,rfl⟩)
 ·have hb:=q2.byt
  obtain ⟨B,m,cp,rfl,h2,h3,h4,h5⟩:=hb
  obtain ⟨gb,ob,rfl,hq⟩:=h5 (by intro e; rw [e] at hx; rw [List.length_nil] at hx; omega)
  obtain rfl:n=m:=om
  refine Sy.writeV kR 1 gx tx _ (A++(x.map bv++Z)).toArray (.int .i64 (n:Int)) J (Tz (R:=N) _ _ 27 27 5 J Aw kR 1 gx f n n tx _ _ J J gb ob n cp J x (λj u hj=>.inr (by
   rw [List.getElem?_map] at hj
   cases hxj:x[j]? with
   | none=>rw [hxj] at hj; cases hj
   | some y=>rw [hxj] at hj; cases hj; exact hq j y hxj)) (λb h=>I2 b (List.mem_append_right _ h)) hx J (by rw [List.size_toArray,List.length_append,List.length_append,hA,List.length_map,hy]; omega) (Di hA (by rw [List.length_map,List.length_map,hy,hx]))) ?_
  refine Sy.nil ?_
  exact Sy.retT0 J (CRS gc gr gx tx (A++(x.map bv++Z)) sl' s'.e (R++N)) (λ_ h=>h) (λ_=>⟨x,s',sl',x.map bv,N,q1,by rw [List.length_map,hx],λu hu=>by obtain ⟨y,_,rfl⟩:=List.mem_map.1 hu; rfl,⟨rfl,hx⟩,q3,q4,q5,rfl⟩)
theorem M7:B7 155 9 (lPT ⟨0,0,false⟩) Pk ptP:=λw0 gc gr gx f tx A Z sl s R S hS hA he hl hv w hw=>by
 obtain ⟨E,hE⟩:=xE (CN ⟨0,0,false⟩)
 have hEl:E.length=33:=by rw [hE]; exact CL _
 have hEm:(E.map bv).length=33:=by rw [List.length_map,hEl]
 refine Sy.enterT (args:=[ptr gc,pT gx f]) hw Tryz.func155 J kL<|sC<|sp J<|sp J<|sS (Cu.pv 0 0 false) (Quiet.mid 1 gx f 9 tx 57 (A++(lPT ⟨0,0,false⟩++Z)) (lPT ⟨0,0,false⟩) _ _ J kR J Am J kR (Cc hA J) (by rw [List.length_append,List.length_append,hA,Cd]; omega))<|sS (.agg (E.map bv).toArray) (qg (λw' _=>by rw [hE]; exact Cu.enc_any w' 0 0 false dZ dZ))<|sM 332 ((List.replicate 33 (0:UInt8)).map bv).toArray (λg4=>?_)
 refine Sy.permS List.perm_append_comm<|sw 0 J ([]++(E.map bv++[])).toArray (by rw [List.nil_append,List.append_nil]; exact Writes.row 332 (E.map bv) 33 _ _ J kR kR kR hEm kZ (Bv E))<|sA<|sp J<|sP (.slice (pA g4) 33 33) ?_
 have p4:((g4,332,([]++(E.map bv++[])).toArray)::CRS gc gr gx tx (A++(lPT ⟨0,0,false⟩++Z)) sl s.e R).Perm (CRS gc gr g4 332 ([]++(E.map bv++[])) sl s.e ((gx,tx,(A++(lPT ⟨0,0,false⟩++Z)).toArray)::R)):=P8
 refine Sy.permS p4<|Sy.callT (λw hw=>Ll 33 dZ dZ w0.inn gc gr g4 0 332 [] [] E hEl sl s ((gx,tx,(A++(lPT ⟨0,0,false⟩++Z)).toArray)::R) S (λb h=>List.mem_cons_of_mem _ (hS b h)) J he hl hv w hw) (λu M hM=>?_)
 obtain ⟨x,s1,sl1,cs1,N1,a1,a2,a3,⟨rfl,a4⟩,a5,a6,a7,rfl⟩:=hM
 obtain ⟨m,hm⟩:=xE (mPt (Cu.decP x))
 have hlt:=MG (Cu.decP x)
 have hokm:=Kq x
 rw [← hm] at hlt hokm
 refine sG<|Sy.seq<|sC<|sp J<|sS (.bool true) (qg (λw hw=>Cs w0.inn gc gr _ _ (List.mem_cons_self ..) w hw))<|sG<|sT<|Sy.region<|sp J<|sP (.slice (pA g4) 33 33)<|sS (.tuple #[.agg (lPT m).toArray,.bool (Cu.decOk x)]) (qg (λw' hw'=>by
  rw [hm, ← NM]
  refine Cu.decode_any w' (pA g4) x 33 33 a4 (λ_=>?_) (Nat.le_refl _)
  have hf:=CA hw' (R:=[(g4,332,([]++(x.map bv++[])).toArray)]) (λy hy=>by rw [List.mem_singleton.1 hy]; exact List.mem_cons_of_mem _ (List.mem_cons_self ..))
  have hc:∀ j u,x[j]? = some u→g4<w'.heap.size∧w'.cell? ⟨g4,0+j,none⟩=some (bv u):=λj u hu=>hf _ _ _ ⟨332,_,List.mem_singleton.2 J,by rw [Nat.zero_add,List.getElem?_toArray,List.nil_append,List.append_nil,List.getElem?_map,hu]; rfl⟩
  exact ⟨g4,0,rfl,(hc 0 _ (List.getElem?_eq_getElem om)).1,λj u hu=>(hc j u hu).2⟩))<|sp J<|sp J<|sp J<|sp J<|sw 3 J (A++(lPT m++Z)).toArray (wMd 57 A (lPT ⟨0,0,false⟩) (lPT m) Z 9 f _ _ J kR kR kR hA J J (CF m)) ?_
 refine Sy.nil<|Sy.then_ ?_
 obtain ⟨b2,hb2⟩:=xE (Cu.rightB m.x m.y m.i)
 obtain ⟨ok,hok⟩:=xE (!m.i)
 obtain ⟨e2,he2⟩:=xE (if ok=true then s1.e else if s1.e=0 then 120 else s1.e)
 have hA2:After ptP s m ⟨s1.rest,e2⟩:=a1.bind (by
  rw [← hm, ← hok]
  cases ok
  ·exact After.mustN m (by show e2≠0; rw [he2,if_neg dZ]; split <;> omega)
  ·have e:(⟨s1.rest,e2⟩:RS)=s1:=by rw [he2,if_pos J]
   rw [e]
   exact After.ret m s1)
 have he22:e2≤200:=by rw [he2]; split; exact a5; split <;> omega
 have ld:∀ {F:AJ} {o:Oper} {x':Operand},o.op=.load 57 x'→evF F x'=pT gx f→Quiet Tryz.prog w0.inn F (CRS gc gr g4 332 ([]++(x.map bv++[])) sl1 s1.e ((gx,tx,(A++(lPT m++Z)).toArray)::(R++N1))) o (Cu.pv m.x m.y m.i):=λho hx=>Quiet.mid 3 gx f 9 tx 57 (A++(lPT m++Z)) (lPT m) _ _ ho hx J Am J kR (Cc hA J) (by rw [List.length_append,List.length_append,hA,Cd]; omega)
 have p5:(CRS gc gr g4 332 ([]++(x.map bv++[])) sl1 s1.e ((gx,tx,(A++(lPT m++Z)).toArray)::(R++N1))).Perm (CRN gc gr sl1 s1.e ((g4,332,([]++(x.map bv++[])).toArray)::((gx,tx,(A++(lPT m++Z)).toArray)::(R++N1)))):=Bs
 refine Sy.regionD (λj=>j == 12) kR<|sa 0 J J<|sa 1 J J<|sa 2 J J<|se 3 [4,5,6,7,8,9,10,11,12] rfl (Cu.pv m.x m.y m.i) (ld J kR)<|se 4 [5,6,7,8,9,10,11,12] rfl (.bool b2) (qg (λw' _=>by rw [hb2]; exact Cu.right_b w' m.x m.y m.i hlt.1 hlt.2))<|sa 5 J J ?_
 cases b2
 case' false =>
  have ho:Et m=false:=by unfold Et; rw [← hb2]; rfl
  obtain rfl:ok=false:=by rw [hok, ← hokm,ho]
  refine Fe 6 J<|Fe 7 J<|Fe 8 J<|Fe 9 J<|Fe 10 J<|sb 11 J (.bool false)<|Sy.soleD 12 J (λQ2 hq2=>?_)
  refine Sy.permS p5<|Sy.callT (λw hw=>Ct w0.inn gc gr sl1 s1.e a5 ((g4,332,([]++(x.map bv++[])).toArray)::((gx,tx,(A++(lPT m++Z)).toArray)::(R++N1))) false w hw) (λu M hM=>?_)
 case' true =>
  refine sa 6 J J<|sa 7 J J<|se 8 [10,11,12] rfl (Cu.pv m.x m.y m.i) (ld J kR)<|se 9 [10,11,12] rfl (Cu.pv 0 0 true) (qg (λw' _=>Cu.zero_c w'))<|sv 10 J (.bool ok) (λw'=>by rw [hok, ← I_ m.x m.y m.i hb2.symm]; exact NI w' _ _ _ _ m.x m.y m.i 0 0 true J J J hlt.1 hlt.2 dZ dZ)<|sb 11 J (.bool ok)<|Sy.soleD 12 J (λQ2 hq2=>?_)
  refine Sy.permS p5<|Sy.callT (λw hw=>Ct w0.inn gc gr sl1 s1.e a5 ((g4,332,([]++(x.map bv++[])).toArray)::((gx,tx,(A++(lPT m++Z)).toArray)::(R++N1))) ok w hw) (λu M hM=>?_)
 all_goals
  subst hM
  rw [← he2]
  refine hq2 _ _<|sE ?_
  exact Sy.retT0 J (CRS gc gr gx tx (A++(lPT m++Z)) sl1 e2 (R++N1)) (λw h=>Sy.St.parts (ls:=[[(gc,134,#[.pointer none,ptr gr,.bool false])],[(gr,253,#[sl1,.int .i64 (e2:Int)])],[(g4,332,([]++(x.map bv++[])).toArray)],[(gx,tx,(A++(lPT m++Z)).toArray)],R++N1]) (ms:=[[(gc,134,#[.pointer none,ptr gr,.bool false])],[(gx,tx,(A++(lPT m++Z)).toArray)],[(gr,253,#[sl1,.int .i64 (e2:Int)])],R++N1]) [[(g4,332,([]++(x.map bv++[])).toArray)]] [0,3,1,4,2] kZ (by rfl) (by simp) (by simp) h) (λ_=>⟨m,⟨s1.rest,e2⟩,sl1,lPT m,N1,hA2,rfl,CF m,⟨rfl,hlt.1,hlt.2⟩,he22,a6,a7,rfl⟩)
theorem Ed (w:World) (F:AJ) (o:Oper) (x y:Operand) (a b:Ak) (ha:a.length=32) (hb:b.length=32) {yt:TypeId} (ho:o.op=.binOp .eql 37 x y yt) (hx:evF F x=.agg (a.map bv).toArray) (hy:evF F y=.agg (b.map bv).toArray):(execOp (evF F) o).run Tryz.prog w=.ok (.value (.bool (decide (a=b)))) w:=by
 have h1:(eqGuard .eql 37 x y (.agg (a.map bv).toArray) (.agg (b.map bv).toArray)).run Tryz.prog w=.ok () w:=by go_simp
 have h2:(binOp .eql 37 (.agg (a.map bv).toArray) (.agg (b.map bv).toArray)).run Tryz.prog w=.ok (.bool (decide (a=b))) w:=by
  have h:=run_equalIn_bytes (P:=Tryz.prog) w 9998 37 5 32 Dd uy5 (λW=>kZ) a b ha hb
  rw [run_eql_struct,show (10000:Nat)=9998+2 from rfl,show (Op.equalIn (9998+2) 37 (.agg (a.map bv).toArray) (.agg (b.map bv).toArray)).run Tryz.prog w=_ from h]
  by_cases e:a=b <;> simp [e]
 unfold execOp
 simp only [ho,hx,hy,Sem.run_bind,h1,h2,Result.andThen_ok,Sem.run_pure]
def z32:Byt:=List.replicate 32 0
def Ff (p:MPt):Bool:=Cu.sameB p.x p.y p.i 0 0 false
structure MTag where
 blind:Bool
 id:Byt
 pt:MPt
def cTG (t:MTag):List Value:=[.bool t.blind]++(t.id.map bv++lPT t.pt)
def IA (_:Rdr) (cs:List Value) (t:MTag):Prop:=cs=cTG t∧t.id.length=32∧t.pt.x<Cu.K4∧t.pt.y<Cu.K4
def Of (t:MTag):Bool:=if t.blind=true then Et t.pt && decide (t.id=z32) else Ff t.pt
def Ij (t:MTag):Byt:=[trB t.blind]++(if t.blind=true then CN t.pt else t.id)
def Ke:Ps MTag:=AH Gj λb=>if b=true then AH ptP λp=>BF ⟨true,z32,p⟩ else AH (An 32) λd=>BF ⟨false,d,⟨0,0,false⟩⟩
structure MAmt where
 blind:Bool
 value:Nat
 pt:MPt
def cAM (t:MAmt):List Value:=[.bool t.blind]++([.int .u64 (t.value:Int)]++lPT t.pt)
def IB (_:Rdr) (cs:List Value) (t:MAmt):Prop:=cs=cAM t∧t.value<18446744073709551616∧t.pt.x<Cu.K4∧t.pt.y<Cu.K4
def Ly (t:MAmt):Bool:=if t.blind=true then Et t.pt && decide (t.value=0) else Ff t.pt
def Ha (t:MAmt):Byt:=[trB t.blind]++(if t.blind=true then CN t.pt else nb 8 t.value)
def Js:Ps MAmt:=AH Gj λb=>if b=true then AH ptP λp=>BF ⟨true,0,p⟩ else AH (BT 8) λd=>BF ⟨false,d,⟨0,0,false⟩⟩
theorem VD:Fw 92 42 IA Of Ij (λ_=>34):=λw0 gc gw gx f bad s R b cs x hx _ hc hb hl w hw=>by
 obtain ⟨bl,id,p⟩:=x
 obtain ⟨rfl,h1,h2,h3⟩:=hx
 dsimp only at h1 h2 h3 hl
 have e1:(id.map bv).length=32:=by rw [List.length_map,h1]
 have c0:OwnAt R gx f ([.bool bl]++(id.map bv++lPT p)):=hc
 have c1:OwnAt R gx (f+1) (id.map bv++lPT p):=c0.right (n:=1) rfl
 have c2:OwnAt R gx (f+33) (lPT p):=by have q:=c1.right e1; rwa [Nat.add_assoc] at q
 have X0:rdC w0.inn R gx f (.bool bl):=(c0.at w0.inn).one
 have X1:XAt (rdC w0.inn R) gx (f+1) (id.map bv):=(c1.at w0.inn).left
 have X2:XAt (rdC w0.inn R) gx (f+33) (lPT p):=c2.at w0.inn
 refine Sy.enterT (args:=[ptr gc,pT gx f]) hw Tryz.func92 J kL<|sC<|sp J<|sp J<|sp J<|sP (pT gx f)<|Sy.callT (λw hw=>Jc w0.inn gc gw gx f bad s R b bl c0.left hb om w hw) (λu M hM=>?_)
 obtain ⟨s1,bad1,b1,q1,p1,rfl⟩:=hM
 have l1:=q1.len
 refine sA<|sp J<|sp J<|sP (pT gx f)<|sS (.bool bl) (AK (R:=R) X0 Ba J uy4)<|sG ?_
 cases bl
 case' true =>
  refine sT<|sC<|sp J<|sp J<|sp J<|sP (pT gx (f+33))<|Sy.callT (λw hw=>M0 w0.inn gc gw gx (f+33) bad1 s1 R b1 (lPT p) p ⟨rfl,h2,h3⟩ rfl X2 p1 (by show _+33≤_; omega) w hw) (λu M hM=>?_)
  obtain ⟨s2,bad2,b2,q2,p2,rfl⟩:=hM
  obtain ⟨ok,hok⟩:=xE (decide (id=z32))
  refine Sy.nil<|Sy.then_<|Sy.region<|sp J<|sp J<|sp J<|sP (pT gx (f+1))<|sS (.agg (id.map bv).toArray) (BQ (R:=R) (cs:=id.map bv) X1 Ba e1 J Dd)<|sP (.agg (z32.map bv).toArray)<|sS (.bool ok) (Quiet.pure (λw=>by rw [hok]; exact Ed w _ _ _ _ id z32 h1 J J J J))<|Sy.callT (λw hw=>B2 w0.inn gc gw bad2 ok s2 R w hw) (λu M hM=>?_)
  subst hM
  refine Sy.nil ?_
  have q:=q1.then_ (q2.then_ (Wrote.must ok bad2 b2))
  rw [Bool.true_and,List.append_nil,hok] at q
  exact Sy.retT0 J (CWS gc gw (bad2 || !ok) s2 R) (λ_ h=>h) (λ_=>⟨s2,bad2 || !ok,b2,by rw [hok]; exact q,p2,rfl⟩)
 refine sU<|sC<|sp J<|sp J<|sp J<|sP (pT gx (f+1))<|Sy.callT (λw hw=>Cx w0.inn gc gw gx (f+1) bad1 s1 R b1 id h1 X1 p1 om w hw) (λu M hM=>?_)
 obtain ⟨s2,bad2,b2,q2,p2,rfl⟩:=hM
 obtain ⟨ok,hok⟩:=xE (Ff p)
 refine Sy.nil<|Sy.then_<|Sy.region<|sp J<|sp J<|sp J<|sP (pT gx (f+33))<|sS (Cu.pv p.x p.y p.i) (BQ (R:=R) (cs:=lPT p) X2 Ba J J Am)<|sP (Cu.pv 0 0 false)<|sS (.bool ok) (Quiet.pure (λw=>by rw [hok]; exact Cu.eql_pt w _ _ _ _ p.x p.y p.i 0 0 false J J J h2 h3 dZ dZ))<|Sy.callT (λw hw=>B2 w0.inn gc gw bad2 ok s2 R w hw) (λu M hM=>?_)
 subst hM
 refine Sy.nil ?_
 have q:=(q1.then_ (q2.then_ (Wrote.must ok bad2 b2))).le (k':=34) om
 rw [Bool.true_and,Bool.true_and,List.append_nil,hok] at q
 exact Sy.retT0 J (CWS gc gw (bad2 || !ok) s2 R) (λ_ h=>h) (λ_=>⟨s2,bad2 || !ok,b2,by rw [hok]; exact q,p2,rfl⟩)
theorem LW:Fw 93 11 IB Ly Ha (λ_=>34):=λw0 gc gw gx f bad s R b cs x hx _ hc hb hl w hw=>by
 obtain ⟨bl,va,p⟩:=x
 obtain ⟨rfl,h1,h2,h3⟩:=hx
 dsimp only at h1 h2 h3 hl
 have c0:OwnAt R gx f ([.bool bl]++([uZ (va:Int)]++lPT p)):=hc
 have c1:OwnAt R gx (f+1) ([uZ (va:Int)]++lPT p):=c0.right (n:=1) rfl
 have c2:OwnAt R gx (f+2) (lPT p):=c1.right (n:=1) rfl
 have X0:rdC w0.inn R gx f (.bool bl):=(c0.at w0.inn).one
 have X1:rdC w0.inn R gx (f+1) (uZ (va:Int)):=(c1.at w0.inn).one
 have X2:XAt (rdC w0.inn R) gx (f+2) (lPT p):=c2.at w0.inn
 refine Sy.enterT (args:=[ptr gc,pT gx f]) hw Tryz.func93 J kL<|sC<|sp J<|sp J<|sp J<|sP (pT gx f)<|Sy.callT (λw hw=>Jc w0.inn gc gw gx f bad s R b bl c0.left hb om w hw) (λu M hM=>?_)
 obtain ⟨s1,bad1,b1,q1,p1,rfl⟩:=hM
 have l1:=q1.len
 refine sA<|sp J<|sp J<|sP (pT gx f)<|sS (.bool bl) (AK (R:=R) X0 Ba J uy4)<|sG ?_
 cases bl
 case' true =>
  refine sT<|sC<|sp J<|sp J<|sp J<|sP (pT gx (f+2))<|Sy.callT (λw hw=>M0 w0.inn gc gw gx (f+2) bad1 s1 R b1 (lPT p) p ⟨rfl,h2,h3⟩ rfl X2 p1 (by show _+33≤_; omega) w hw) (λu M hM=>?_)
  obtain ⟨s2,bad2,b2,q2,p2,rfl⟩:=hM
  obtain ⟨ok,hok⟩:=xE (decide (va=0))
  refine Sy.nil<|Sy.then_<|Sy.region<|sp J<|sp J<|sp J<|sP (pT gx (f+1))<|sS (uZ (va:Int)) (AK (R:=R) X1 Ba J CD)<|sS (.bool ok) (Quiet.pure (AE .eql _ _ _ .u64 _ _ _ J J J (Aa _ _ _ _ _ (by rw [hok]; exact decide_eq_decide.2 om))))<|Sy.callT (λw hw=>B2 w0.inn gc gw bad2 ok s2 R w hw) (λu M hM=>?_)
  subst hM
  refine Sy.nil ?_
  have q:=q1.then_ (q2.then_ (Wrote.must ok bad2 b2))
  rw [Bool.true_and,List.append_nil,hok] at q
  exact Sy.retT0 J (CWS gc gw (bad2 || !ok) s2 R) (λ_ h=>h) (λ_=>⟨s2,bad2 || !ok,b2,by rw [hok]; exact q,p2,rfl⟩)
 refine sU<|sC<|sp J<|sp J<|sp J<|sP (pT gx (f+1))<|Sy.callT (λw hw=>Fm w0.inn gc gw gx (f+1) bad1 s1 R b1 va h1 X1 p1 om w hw) (λu M hM=>?_)
 obtain ⟨s2,bad2,b2,q2,p2,rfl⟩:=hM
 obtain ⟨ok,hok⟩:=xE (Ff p)
 refine Sy.nil<|Sy.then_<|Sy.region<|sp J<|sp J<|sp J<|sP (pT gx (f+2))<|sS (Cu.pv p.x p.y p.i) (BQ (R:=R) (cs:=lPT p) X2 Ba J J Am)<|sP (Cu.pv 0 0 false)<|sS (.bool ok) (Quiet.pure (λw=>by rw [hok]; exact Cu.eql_pt w _ _ _ _ p.x p.y p.i 0 0 false J J J h2 h3 dZ dZ))<|Sy.callT (λw hw=>B2 w0.inn gc gw bad2 ok s2 R w hw) (λu M hM=>?_)
 subst hM
 refine Sy.nil ?_
 have q:=(q1.then_ (q2.then_ (Wrote.must ok bad2 b2))).le (k':=34) om
 rw [Bool.true_and,Bool.true_and,List.append_nil,hok] at q
 exact Sy.retT0 J (CWS gc gw (bad2 || !ok) s2 R) (λ_ h=>h) (λ_=>⟨s2,bad2 || !ok,b2,by rw [hok]; exact q,p2,rfl⟩)
theorem J6 {A v Z:List Value} {f k:Nat} (hA:A.length=f) (hv:v.length=k):f+k≤(A++(v++Z)).length:=by rw [List.length_append,List.length_append,hA,hv]; omega
theorem VE:B7 92 42 ([Value.bool false]++(Z32++lPT ⟨0,0,false⟩)) IA Ke:=λw0 gc gr gx f tx A Z sl s R S hS hA he hl hv w hw=>by
 refine Sy.enterT (args:=[ptr gc,pT gx f]) hw Tryz.func92 J kL<|sC<|sp J<|sp J<|sp J<|sP (pT gx f)<|Sy.callT (λw hw=>Jd w0.inn gc gr gx f tx A (Z32++(lPT ⟨0,0,false⟩++Z)) sl s R S hS hA he hl hv w (by simpa only [List.append_assoc] using hw)) (λu M hM=>?_)
 obtain ⟨x1,s1,sl1,cs1,N1,a1,n1,o1,rfl,e1,h1,y1,rfl⟩:=hM
 have hS1:∀ b∈S,b∈R++N1:=λb h=>List.mem_append_left _ (hS b h)
 refine sA<|sp J<|sp J<|sP (pT gx f)<|sS (.bool x1) (Quiet.cell 1 gx f tx 4 (A++([Value.bool x1]++(Z32++(lPT ⟨0,0,false⟩++Z)))).toArray _ _ J kR J uy4 J _ (by rw [List.getElem?_toArray,List.getElem?_append_right om,hA,Nat.sub_self]; rfl)) ?_
 refine sG ?_
 cases x1
 case' true =>
  have A1:(A++[Value.bool true]).length=f+1:=by rw [List.length_append,hA]; rfl
  have A2:(A++[Value.bool true]++Z32).length=f+33:=by rw [List.length_append,A1,Cn]
  refine sT<|sC<|sp J<|sp J<|sp J<|sP (pT gx (f+33))<|Sy.callT (λw hw=>M7 w0.inn gc gr gx (f+33) tx (A++[Value.bool true]++Z32) Z sl1 s1 (R++N1) S hS1 A2 e1 (Nat.le_trans h1 hl) y1 w (by simpa only [List.append_assoc] using hw)) (λu M hM=>?_)
  obtain ⟨m,s2,sl2,cs2,N2,a2,n2,o2,⟨rfl,b1,b2⟩,e2,h2,y2,rfl⟩:=hM
  refine Sy.permS (M:=CRS gc gr gx tx ((A++[Value.bool true])++(Z32++(lPT m++Z))) sl2 s2.e (R++N1++N2)) (List.Perm.of_eq (by rw [List.append_assoc (A++[Value.bool true])]))<|Sy.nil<|Sy.then_<|Sy.region<|sp J<|sp J<|sp J<|sP (pT gx (f+1))<|sS (.agg (z32.map bv).toArray) (Quiet.mid 1 gx (f+1) 32 tx 37 ((A++[Value.bool true])++(Z32++(lPT m++Z))) Z32 _ _ J kR J Dd J kR (Cc A1 Cn) (J6 A1 Cn))<|sP (.agg (z32.map bv).toArray)<|sS (.bool true) (Quiet.pure (λw=>(Ed w _ _ _ _ z32 z32 J J J J J).trans (by rw [decide_eq_true J]))) ?_
  have p5:(CRS gc gr gx tx ((A++[Value.bool true])++(Z32++(lPT m++Z))) sl2 s2.e (R++N1++N2)).Perm (CRN gc gr sl2 s2.e ((gx,tx,((A++[Value.bool true])++(Z32++(lPT m++Z))).toArray)::(R++N1++N2))):=Bs
  refine Sy.permS p5<|Sy.callT (λw hw=>Ct w0.inn gc gr sl2 s2.e e2 ((gx,tx,((A++[Value.bool true])++(Z32++(lPT m++Z))).toArray)::(R++N1++N2)) true w hw) (λu M hM=>?_)
  subst hM
  rw [if_pos J]
  refine Sy.permS p5.symm<|Sy.nil ?_
  have hAf:After Ke s ⟨true,z32,m⟩ s2:=a1.bind (by rw [if_pos J]; exact a2.bind (After.ret _ _))
  have hLn:([Value.bool true]++(Z32++lPT m)).length=42:=rfl
  have hOn:∀ u∈([Value.bool true]++(Z32++lPT m)),u.oneCell'=true:=AD o1 (AD (Bv z32) o2)
  exact Sy.retT0 J (CRS gc gr gx tx (A++(([Value.bool true]++(Z32++lPT m))++Z)) sl2 s2.e (R++(N1++N2))) (λ_ h=>by simpa only [List.append_assoc,List.cons_append,List.nil_append] using h) (λ_=>⟨_,s2,sl2,_,N1++N2,hAf,hLn,hOn,⟨rfl,rfl,b1,b2⟩,e2,Nat.le_trans h2 h1,y2,rfl⟩)
 have A1:(A++[Value.bool false]).length=f+1:=by rw [List.length_append,hA]; rfl
 refine sU<|sC<|sp J<|sp J<|sp J<|sP (pT gx (f+1))<|Sy.callT (λw hw=>Cy w0.inn gc gr gx (f+1) tx (A++[Value.bool false]) (lPT ⟨0,0,false⟩++Z) sl1 s1 (R++N1) S hS1 A1 e1 (Nat.le_trans h1 hl) y1 w (by simpa only [List.append_assoc] using hw)) (λu M hM=>?_)
 obtain ⟨m,s2,sl2,cs2,N2,a2,n2,o2,⟨rfl,b1⟩,e2,h2,y2,rfl⟩:=hM
 have A2:(A++[Value.bool false]++m.map bv).length=f+33:=by rw [List.length_append,A1,n2]
 refine Sy.permS (M:=CRS gc gr gx tx ((A++[Value.bool false]++m.map bv)++(lPT ⟨0,0,false⟩++Z)) sl2 s2.e (R++N1++N2)) (List.Perm.of_eq (by rw [List.append_assoc (A++[Value.bool false])]))<|Sy.nil<|Sy.then_<|Sy.region<|sp J<|sp J<|sp J<|sP (pT gx (f+33))<|sS (Cu.pv 0 0 false) (Quiet.mid 1 gx (f+33) 9 tx 57 ((A++[Value.bool false]++m.map bv)++(lPT ⟨0,0,false⟩++Z)) (lPT ⟨0,0,false⟩) _ _ J kR J Am J kR (Cc A2 J) (J6 A2 J))<|sP (Cu.pv 0 0 false)<|sS (.bool true) (Quiet.pure (λw=>Cu.eql_pt w _ _ _ _ 0 0 false 0 0 false J J J dZ dZ dZ dZ)) ?_
 have p5:(CRS gc gr gx tx ((A++[Value.bool false]++m.map bv)++(lPT ⟨0,0,false⟩++Z)) sl2 s2.e (R++N1++N2)).Perm (CRN gc gr sl2 s2.e ((gx,tx,((A++[Value.bool false]++m.map bv)++(lPT ⟨0,0,false⟩++Z)).toArray)::(R++N1++N2))):=Bs
 refine Sy.permS p5<|Sy.callT (λw hw=>Ct w0.inn gc gr sl2 s2.e e2 ((gx,tx,((A++[Value.bool false]++m.map bv)++(lPT ⟨0,0,false⟩++Z)).toArray)::(R++N1++N2)) true w hw) (λu M hM=>?_)
 subst hM
 rw [if_pos J]
 refine Sy.permS p5.symm<|Sy.nil ?_
 ·have hAf:After Ke s ⟨false,m,⟨0,0,false⟩⟩ s2:=a1.bind (by rw [if_neg dZ]; exact a2.bind (After.ret _ _))
  have hLn:([Value.bool false]++(m.map bv++lPT ⟨0,0,false⟩)).length=42:=by rw [List.length_append,List.length_append,n2]; rfl
  have hOn:∀ u∈([Value.bool false]++(m.map bv++lPT ⟨0,0,false⟩)),u.oneCell'=true:=AD o1 (AD o2 (CF _))
  exact Sy.retT0 J (CRS gc gr gx tx (A++(([Value.bool false]++(m.map bv++lPT ⟨0,0,false⟩))++Z)) sl2 s2.e (R++(N1++N2))) (λ_ h=>by simpa only [List.append_assoc,List.cons_append,List.nil_append] using h) (λ_=>⟨_,s2,sl2,_,N1++N2,hAf,hLn,hOn,⟨rfl,b1,(show 0<Cu.K4 by decide),(show 0<Cu.K4 by decide)⟩,e2,Nat.le_trans h2 h1,y2,rfl⟩)
theorem LX:B7 93 11 ([Value.bool false]++([Value.int .u64 0]++lPT ⟨0,0,false⟩)) IB Js:=λw0 gc gr gx f tx A Z sl s R S hS hA he hl hv w hw=>by
 refine Sy.enterT (args:=[ptr gc,pT gx f]) hw Tryz.func93 J kL<|sC<|sp J<|sp J<|sp J<|sP (pT gx f)<|Sy.callT (λw hw=>Jd w0.inn gc gr gx f tx A ([Value.int .u64 0]++(lPT ⟨0,0,false⟩++Z)) sl s R S hS hA he hl hv w (by simpa only [List.append_assoc] using hw)) (λu M hM=>?_)
 obtain ⟨x1,s1,sl1,cs1,N1,a1,n1,o1,rfl,e1,h1,y1,rfl⟩:=hM
 have hS1:∀ b∈S,b∈R++N1:=λb h=>List.mem_append_left _ (hS b h)
 refine sA<|sp J<|sp J<|sP (pT gx f)<|sS (.bool x1) (Quiet.cell 1 gx f tx 4 (A++([Value.bool x1]++([Value.int .u64 0]++(lPT ⟨0,0,false⟩++Z)))).toArray _ _ J kR J uy4 J _ (by rw [List.getElem?_toArray,List.getElem?_append_right om,hA,Nat.sub_self]; rfl)) ?_
 refine sG ?_
 cases x1
 case' true =>
  have A1:(A++[Value.bool true]).length=f+1:=by rw [List.length_append,hA]; rfl
  have A2:(A++[Value.bool true]++[Value.int .u64 0]).length=f+2:=by rw [List.length_append,A1]; rfl
  refine sT<|sC<|sp J<|sp J<|sp J<|sP (pT gx (f+2))<|Sy.callT (λw hw=>M7 w0.inn gc gr gx (f+2) tx (A++[Value.bool true]++[Value.int .u64 0]) Z sl1 s1 (R++N1) S hS1 A2 e1 (Nat.le_trans h1 hl) y1 w (by simpa only [List.append_assoc] using hw)) (λu M hM=>?_)
  obtain ⟨m,s2,sl2,cs2,N2,a2,n2,o2,⟨rfl,b1,b2⟩,e2,h2,y2,rfl⟩:=hM
  refine Sy.permS (M:=CRS gc gr gx tx ((A++[Value.bool true])++([Value.int .u64 0]++(lPT m++Z))) sl2 s2.e (R++N1++N2)) (List.Perm.of_eq (by rw [List.append_assoc (A++[Value.bool true])]))<|Sy.nil<|Sy.then_<|Sy.region<|sp J<|sp J<|sp J<|sP (pT gx (f+1))<|sS (uZ 0) (Quiet.cell 1 gx (f+1) tx 22 ((A++[Value.bool true])++([Value.int .u64 0]++(lPT m++Z))).toArray _ _ J kR J CD J _ (by rw [List.getElem?_toArray,List.getElem?_append_right om,A1,Nat.sub_self]; rfl))<|sP (.bool true) ?_
  have p5:(CRS gc gr gx tx ((A++[Value.bool true])++([Value.int .u64 0]++(lPT m++Z))) sl2 s2.e (R++N1++N2)).Perm (CRN gc gr sl2 s2.e ((gx,tx,((A++[Value.bool true])++([Value.int .u64 0]++(lPT m++Z))).toArray)::(R++N1++N2))):=Bs
  refine Sy.permS p5<|Sy.callT (λw hw=>Ct w0.inn gc gr sl2 s2.e e2 ((gx,tx,((A++[Value.bool true])++([Value.int .u64 0]++(lPT m++Z))).toArray)::(R++N1++N2)) true w hw) (λu M hM=>?_)
  subst hM
  rw [if_pos J]
  refine Sy.permS p5.symm<|Sy.nil ?_
  have hAf:After Js s ⟨true,0,m⟩ s2:=a1.bind (by rw [if_pos J]; exact a2.bind (After.ret _ _))
  have hLn:([Value.bool true]++([Value.int .u64 0]++lPT m)).length=11:=rfl
  have hOn:∀ u∈([Value.bool true]++([Value.int .u64 0]++lPT m)),u.oneCell'=true:=AD o1 (AD (λu hu=>by rw [List.mem_singleton.1 hu]; rfl) o2)
  exact Sy.retT0 J (CRS gc gr gx tx (A++(([Value.bool true]++([Value.int .u64 0]++lPT m))++Z)) sl2 s2.e (R++(N1++N2))) (λ_ h=>by simpa only [List.append_assoc,List.cons_append,List.nil_append] using h) (λ_=>⟨_,s2,sl2,_,N1++N2,hAf,hLn,hOn,⟨rfl,(show (0:Nat)<18446744073709551616 by decide),b1,b2⟩,e2,Nat.le_trans h2 h1,y2,rfl⟩)
 have A1:(A++[Value.bool false]).length=f+1:=by rw [List.length_append,hA]; rfl
 refine sU<|sC<|sp J<|sp J<|sp J<|sP (pT gx (f+1))<|Sy.callT (λw hw=>Fo w0.inn gc gr gx (f+1) tx (A++[Value.bool false]) (lPT ⟨0,0,false⟩++Z) sl1 s1 (R++N1) S hS1 A1 e1 (Nat.le_trans h1 hl) y1 w (by simpa only [List.append_assoc] using hw)) (λu M hM=>?_)
 obtain ⟨m,s2,sl2,cs2,N2,a2,n2,o2,⟨rfl,b1⟩,e2,h2,y2,rfl⟩:=hM
 have A2:(A++[Value.bool false]++[Value.int .u64 (m:Int)]).length=f+2:=by rw [List.length_append,A1,n2]
 refine Sy.permS (M:=CRS gc gr gx tx ((A++[Value.bool false]++[Value.int .u64 (m:Int)])++(lPT ⟨0,0,false⟩++Z)) sl2 s2.e (R++N1++N2)) (List.Perm.of_eq (by rw [List.append_assoc (A++[Value.bool false])]))<|Sy.nil<|Sy.then_<|Sy.region<|sp J<|sp J<|sp J<|sP (pT gx (f+2))<|sS (Cu.pv 0 0 false) (Quiet.mid 1 gx (f+2) 9 tx 57 ((A++[Value.bool false]++[Value.int .u64 (m:Int)])++(lPT ⟨0,0,false⟩++Z)) (lPT ⟨0,0,false⟩) _ _ J kR J Am J kR (Cc A2 J) (J6 A2 J))<|sP (Cu.pv 0 0 false)<|sS (.bool true) (Quiet.pure (λw=>Cu.eql_pt w _ _ _ _ 0 0 false 0 0 false J J J dZ dZ dZ dZ)) ?_
 have p5:(CRS gc gr gx tx ((A++[Value.bool false]++[Value.int .u64 (m:Int)])++(lPT ⟨0,0,false⟩++Z)) sl2 s2.e (R++N1++N2)).Perm (CRN gc gr sl2 s2.e ((gx,tx,((A++[Value.bool false]++[Value.int .u64 (m:Int)])++(lPT ⟨0,0,false⟩++Z)).toArray)::(R++N1++N2))):=Bs
 refine Sy.permS p5<|Sy.callT (λw hw=>Ct w0.inn gc gr sl2 s2.e e2 ((gx,tx,((A++[Value.bool false]++[Value.int .u64 (m:Int)])++(lPT ⟨0,0,false⟩++Z)).toArray)::(R++N1++N2)) true w hw) (λu M hM=>?_)
 subst hM
 rw [if_pos J]
 refine Sy.permS p5.symm<|Sy.nil ?_
 ·have hAf:After Js s ⟨false,m,⟨0,0,false⟩⟩ s2:=a1.bind (by rw [if_neg dZ]; exact a2.bind (After.ret _ _))
  have hLn:([Value.bool false]++([Value.int .u64 (m:Int)]++lPT ⟨0,0,false⟩)).length=11:=by rw [List.length_append,List.length_append,n2]; rfl
  have hOn:∀ u∈([Value.bool false]++([Value.int .u64 (m:Int)]++lPT ⟨0,0,false⟩)),u.oneCell'=true:=AD o1 (AD o2 (CF _))
  exact Sy.retT0 J (CRS gc gr gx tx (A++(([Value.bool false]++([Value.int .u64 (m:Int)]++lPT ⟨0,0,false⟩))++Z)) sl2 s2.e (R++(N1++N2))) (λ_ h=>by simpa only [List.append_assoc,List.cons_append,List.nil_append] using h) (λ_=>⟨_,s2,sl2,_,N1++N2,hAf,hLn,hOn,⟨rfl,b1,(show 0<Cu.K4 by decide),(show 0<Cu.K4 by decide)⟩,e2,Nat.le_trans h2 h1,y2,rfl⟩)
structure MOu where
 kind:Int
 asset:MTag
 amount:MAmt
 range:Byt
 surject:Byt
 note:Byt
 script:Byt
def okK (k:Int):Bool:=decide (1≤k) && decide (k≤4)
def cOU (o:MOu) (vr vs vn vc:Value):List Value:=[.int .i64 o.kind]++(cTG o.asset++(cAM o.amount++([vr]++([vs]++([vn]++[vc])))))
def Cg (C:Rdr) (cs:List Value) (o:MOu):Prop:=∃ vr vs vn vc,cs=cOU o vr vs vn vc∧(o.asset.id.length=32∧o.asset.pt.x<Cu.K4∧o.asset.pt.y<Cu.K4)∧(o.amount.value<18446744073709551616∧o.amount.pt.x<Cu.K4∧o.amount.pt.y<Cu.K4)∧BytR C vr o.range∧BytR C vs o.surject∧BytR C vn o.note∧BytR C vc o.script
theorem Ex:BN Cg:=λhl ⟨vr,vs,vn,vc,h1,h2,h3,h4,h5,h6,h7⟩=>⟨vr,vs,vn,vc,h1,h2,h3,h4.le hl,h5.le hl,h6.le hl,h7.le hl⟩
def D_ (b:Byt):Byt:=Ap b.length++b
def Gq (o:MOu):Bool:=okK o.kind && (Of o.asset && (Ly o.amount && (decide (o.range.length≤6000) && (decide (o.surject.length≤6000) && (decide (o.note.length≤128) && decide (o.script.length≤256))))))
def GT (o:MOu):Byt:=[CQ o.kind]++(Ij o.asset++(Ha o.amount++(D_ o.range++(D_ o.surject++(D_ o.note++D_ o.script)))))
def D7 (o:MOu):Nat:=1+(34+(34+((9+o.range.length)+((9+o.surject.length)+((9+o.note.length)+(9+o.script.length))))))
def Gn:Ps MOu:=AH CH λk=>AH (BH (okK k)) λ_=>AH Ke λa=>AH Js λb=>AH (Bq 6000) λr=>AH (Bq 6000) λs=>AH (Bq 128) λn=>AH (Bq 256) λc=>BF ⟨k,a,b,r,s,n,c⟩
theorem Lx {z:Int} (h:¬ (z=1∨z=2∨z=3∨z=4)):okK z=false:=by
 cases hb:okK z with
 | false=>rfl
 | true =>
  unfold okK at hb
  rw [Bool.and_eq_true,decide_eq_true_eq,decide_eq_true_eq] at hb
  exact (h om).elim
theorem NF {z:Int} (h:z=1∨z=2∨z=3∨z=4):okK z=true∧okO z=true:=by rcases h with rfl|rfl|rfl|rfl <;> exact ⟨rfl,rfl⟩
theorem Ee {t:MTag} (h:t.id.length=32):(cTG t).length=42:=by unfold cTG; rw [List.length_append,List.length_append,List.length_map,h]; rfl
theorem VW:Fw 46 58 Cg Gq GT D7:=λw0 gc gw gx f bad s R b cs x hx _ hc hb hl w hw=>by
 obtain ⟨z,ta,am,rg,su,nt,sc⟩:=x
 obtain ⟨vr,vs,vn,vc,rfl,h1,h2,h3,h4,h5,h6⟩:=hx
 dsimp only at h1 h2 h3 h4 h5 h6
 unfold D7 at hl
 dsimp only at hl
 have c0:OwnAt R gx f ([.int .i64 z]++(cTG ta++(cAM am++([vr]++([vs]++([vn]++[vc])))))):=hc
 have c1:OwnAt R gx (f+1) (cTG ta++(cAM am++([vr]++([vs]++([vn]++[vc]))))):=c0.right (n:=1) rfl
 have c2:OwnAt R gx (f+43) (cAM am++([vr]++([vs]++([vn]++[vc])))):=by have q:=c1.right (Ee h1.1); rwa [Nat.add_assoc] at q
 have c3:OwnAt R gx (f+54) ([vr]++([vs]++([vn]++[vc]))):=by have q:=c2.right (n:=11) rfl; rwa [Nat.add_assoc] at q
 have c4:OwnAt R gx (f+55) ([vs]++([vn]++[vc])):=c3.right (n:=1) rfl
 have c5:OwnAt R gx (f+56) ([vn]++[vc]):=c4.right (n:=1) rfl
 have c6:OwnAt R gx (f+57) [vc]:=c5.right (n:=1) rfl
 have X0:rdC w0.inn R gx f (.int .i64 z):=(c0.at w0.inn).one
 refine Sy.enterT (args:=[ptr gc,pT gx f]) hw Tryz.func46 J kL<|sC<|sp J<|sp J<|sp J<|sP (pT gx f)<|Sy.callT (λw hw=>EX w0.inn gc gw gx f bad s R b z X0 hb om w hw) (λu M hM=>?_)
 obtain ⟨s1,bad1,b1,q1,p1,rfl⟩:=hM
 have l1:=q1.len
 refine sA<|sp J<|sp J<|sP (pT gx f)<|sS (.int .i64 z) (AK (R:=R) X0 Ba J uy3)<|sG<|Sy.block<|Sy.seq<|Sy.block ?_
 by_cases hk:z=1∨z=2∨z=3∨z=4
 ·obtain ⟨k1,k2⟩:=NF hk
  refine Sy.seq<|DN [(0,ptr gc),(1,pT gx f)] (CWS gc gw bad1 s1 R) ?_ ?_
  ·clear hl X0 c0 q1 k1 k2 hc
   rcases hk with rfl|rfl|rfl|rfl
   ·refine Sy.block<|Sy.block<|Sy.block<|Sy.block<|Sy.seq<|Sy.seq<|sC ?_
    refine sP (.bool true)<|sp J<|sG<|sT<|Sy.exit<|Sy.then_exit<|Sy.then_exit<|Sy.in_exit<|Sy.in_<|Sy.in_<|Sy.in_ ?_
    exact A_ ac2 (λ_ h=>h)
   ·refine Sy.block<|Sy.block<|Sy.block<|Sy.block<|Sy.seq<|Sy.seq<|sC ?_
    refine sP (.bool false)<|sp J<|sG<|sU<|Sy.skip<|Sy.then_<|Sy.seq<|sC<|sP (.bool true)<|sp J<|sG<|sT<|Sy.exit<|Sy.then_exit<|Sy.then_exit<|Sy.in_pass (by decide)<|Sy.in_exit<|Sy.in_<|Sy.in_ ?_
    exact A_ ac2 (λ_ h=>h)
   ·refine Sy.block<|Sy.block<|Sy.block<|Sy.block<|Sy.seq<|Sy.seq<|sC ?_
    refine sP (.bool false)<|sp J<|sG<|sU<|Sy.skip<|Sy.then_<|Sy.seq<|sC<|sP (.bool false)<|sp J<|sG<|sU<|Sy.skip<|Sy.then_<|Sy.seq<|sC<|sP (.bool true)<|sp J<|sG<|sT<|Sy.exit<|Sy.then_exit<|Sy.then_exit<|Sy.in_pass (by decide)<|Sy.in_pass (by decide)<|Sy.in_exit<|Sy.in_ ?_
    exact A_ ac2 (λ_ h=>h)
   ·refine Sy.block<|Sy.block<|Sy.block<|Sy.block<|Sy.seq<|Sy.seq<|sC ?_
    refine sP (.bool false)<|sp J<|sG<|sU<|Sy.skip<|Sy.then_<|Sy.seq<|sC<|sP (.bool false)<|sp J<|sG<|sU<|Sy.skip<|Sy.then_<|Sy.seq<|sC<|sP (.bool false)<|sp J<|sG<|sU<|Sy.skip<|Sy.then_<|sC<|sP (.bool true)<|sp J<|sG<|sT<|Sy.exit<|Sy.then_exit<|Sy.in_pass (by decide)<|Sy.in_pass (by decide)<|Sy.in_pass dZ ?_
    refine Sy.in_exit ?_
    exact A_ ac2 (λ_ h=>h)
  refine Sy.then_<|Sy.seq<|sC<|sp J<|sp J<|sp J<|sP (pT gx (f+1))<|Sy.callT (λw hw=>VD w0.inn gc gw gx (f+1) bad1 s1 R b1 (cTG ta) ta ⟨rfl,h1⟩ (Ee h1.1) c1.left p1 (by show _+34≤_; omega) w hw) (λu M hM=>?_)
  obtain ⟨s2,bad2,b2,q2,p2,rfl⟩:=hM
  have l2:b2.length≤b1.length+34:=q2.len
  refine sA<|sp J<|sp J<|sp J<|sP (pT gx (f+43))<|Sy.callT (λw hw=>LW w0.inn gc gw gx (f+43) bad2 s2 R b2 (cAM am) am ⟨rfl,h2⟩ rfl c2.left p2 (by show _+34≤_; omega) w hw) (λu M hM=>?_)
  obtain ⟨s3,bad3,b3,q3,p3,rfl⟩:=hM
  have l3:b3.length≤b2.length+34:=q3.len
  refine sA<|sp J<|sp J<|sp J<|sP (pT gx (f+54))<|Sy.callT (λw hw=>EQ w0.inn gc gw gx (f+54) bad3 s3 R b3 rg vr 6000 dZ h3 (c3.at w0.inn).one p3 om w hw) (λu M hM=>?_)
  obtain ⟨s4,bad4,b4,q4,p4,rfl⟩:=hM
  have l4:b4.length≤b3.length+(9+rg.length):=q4.len
  refine sA<|sp J<|sp J<|sp J<|sP (pT gx (f+55))<|Sy.callT (λw hw=>EQ w0.inn gc gw gx (f+55) bad4 s4 R b4 su vs 6000 dZ h4 (c4.at w0.inn).one p4 om w hw) (λu M hM=>?_)
  obtain ⟨s5,bad5,b5,q5,p5,rfl⟩:=hM
  have l5:b5.length≤b4.length+(9+su.length):=q5.len
  refine sA<|sp J<|sp J<|sp J<|sP (pT gx (f+56))<|Sy.callT (λw hw=>EQ w0.inn gc gw gx (f+56) bad5 s5 R b5 nt vn 128 dZ h5 (c5.at w0.inn).one p5 om w hw) (λu M hM=>?_)
  obtain ⟨s6,bad6,b6,q6,p6,rfl⟩:=hM
  have l6:b6.length≤b5.length+(9+nt.length):=q6.len
  refine Sy.nil<|Sy.then_<|Sy.region<|sp J<|sp J<|sp J<|sP (pT gx (f+57))<|Sy.callT (λw hw=>EQ w0.inn gc gw gx (f+57) bad6 s6 R b6 sc vc 256 dZ h6 (c6.at w0.inn).one p6 om w hw) (λu M hM=>?_)
  obtain ⟨s7,bad7,b7,q7,p7,rfl⟩:=hM
  have l7:b7.length≤b6.length+(9+sc.length):=q7.len
  refine Sy.nil<|Sy.then_<|Sy.exit<|Sy.in_pass (by decide)<|Sy.then_exit<|Sy.in_exit ?_
  have q:=q1.then_ (q2.then_ (q3.then_ (q4.then_ (q5.then_ (q6.then_ q7)))))
  rw [k2, ← k1] at q
  exact Sy.retT0 J (CWS gc gw bad7 s7 R) (λ_ h=>h) (λ_=>⟨s7,bad7,b7,q,p7,rfl⟩)
 refine Sy.seq<|Sy.block<|Sy.block<|Sy.block<|Sy.block<|Sy.seq<|Sy.seq<|sC<|sS (.bool false) (Quiet.pure (AE .eql _ _ _ .i64 _ _ _ J J J (Aa _ _ _ _ _ (decide_eq_false (λe=>hk (by simp [e]))))))<|sp J<|sG<|sU<|Sy.skip<|Sy.then_<|Sy.seq<|sC<|sS (.bool false) (Quiet.pure (AE .eql _ _ _ .i64 _ _ _ J J J (Aa _ _ _ _ _ (decide_eq_false (λe=>hk (by simp [e]))))))<|sp J<|sG<|sU<|Sy.skip<|Sy.then_<|Sy.seq<|sC<|sS (.bool false) (Quiet.pure (AE .eql _ _ _ .i64 _ _ _ J J J (Aa _ _ _ _ _ (decide_eq_false (λe=>hk (by simp [e]))))))<|sp J<|sG<|sU<|Sy.skip<|Sy.then_<|sC<|sS (.bool false) (Quiet.pure (AE .eql _ _ _ .i64 _ _ _ J J J (Aa _ _ _ _ _ (decide_eq_false (λe=>hk (by simp [e]))))))<|sp J<|sG<|sU<|Sy.skip<|Sy.then_<|Sy.exit<|Sy.in_pass (by decide)<|Sy.in_pass dZ ?_
 refine Sy.in_pass (by decide)<|Sy.in_pass (by decide)<|Sy.then_exit<|Sy.in_exit<|sB<|sp J<|Sy.callT (λw hw=>B2 w0.inn gc gw bad1 false s1 R w hw) (λu M hM=>?_)
 subst hM
 refine sG<|Sy.exit<|Sy.in_exit ?_
 have hno:Gq ⟨z,ta,am,rg,su,nt,sc⟩=false:=by unfold Gq; rw [Lx hk]; rfl
 exact Sy.retT0 J (CWS gc gw (bad1 || !false) s1 R) (λ_ h=>h) (λ_=>⟨s1,bad1 || !false,b1,⟨by rw [hno]; cases bad1 <;> cases bad <;> rfl,λh=>(by cases bad1 <;> cases h),by unfold D7; dsimp only; omega⟩,p1,rfl⟩)
theorem QK:Opn 55 4 (λ_ cs n=>cs=Cu.fws n∧n<Cu.K4) (λ_=>0):=⟨λ{H enc W fuel cs x} hl hf=>by
 match cs,hl with
 | [c0,c1,c2,c3],_ =>
  obtain ⟨n,h1,h2⟩:=Cu.words_trod Af CD kZ hf
  refine ⟨n,⟨h2,h1⟩,λu hu=>?_,C0 _⟩
  rw [h2] at hu
  simp only [Cu.fws,List.mem_cons,List.not_mem_nil,or_false] at hu
  rcases hu with rfl|rfl|rfl|rfl <;> rfl⟩
theorem QI:Opn 57 9 Pk (λ_=>0):=(IM Am kZ kZ kZ kZ kZ kZ QK QK (M_ uy4)).as λC cs (x,y,i) ⟨a0,a1,a2,e,⟨e0,h0⟩,⟨e1,h1⟩,e2⟩=>by
 obtain rfl:a2=[.bool i]:=e2
 subst e0 e1 e
 exact ⟨⟨x,y,i⟩,⟨rfl,h0,h1⟩,Nat.zero_le _⟩
theorem SG:Opn 59 42 IA (λ_=>0):=(IM PH kZ kZ kZ kZ kZ kZ (M_ uy4) Es QI).as λC cs (b,d,p) ⟨a0,a1,a2,e,e0,⟨e1,h1⟩,⟨e2,h2⟩⟩=>by
 obtain rfl:a0=[.bool b]:=e0
 subst e1 e2 e
 exact ⟨⟨b,d,p⟩,⟨rfl,h1,h2⟩,Nat.zero_le _⟩
theorem M':Opn 61 11 IB (λ_=>0):=(IM KQ kZ kZ kZ kZ kZ kZ (M_ uy4) GD QI).as λC cs (b,d,p) ⟨a0,a1,a2,e,e0,⟨e1,h1⟩,⟨e2,h2⟩⟩=>by
 obtain rfl:a0=[.bool b]:=e0
 subst e1 e2 e
 exact ⟨⟨b,d,p⟩,⟨rfl,h1,h2⟩,Nat.zero_le _⟩
theorem opn_out:Opn 63 58 Cg (λo=>o.range.length+o.surject.length+o.note.length+o.script.length):=(UQ OA kZ kZ kZ kZ kZ kZ kZ kZ kZ kZ kZ kZ kZ kZ (Ko uy3) SG M' opn_raw opn_raw opn_raw opn_raw).as λC cs (k,t,a,r,s,n,c) ⟨a0,a1,a2,a3,a4,a5,a6,ec,e0,⟨e1,h1⟩,⟨e2,h2⟩,⟨v3,e3,h3⟩,⟨v4,e4,h4⟩,⟨v5,e5,h5⟩,⟨v6,e6,h6⟩⟩=>by
 obtain rfl:a0=[.int .i64 k]:=e0
 dsimp only at e1 e2 e3 e4 e5 e6 h1 h2 h3 h4 h5 h6
 subst e1 e2 e3 e4 e5 e6 ec
 exact ⟨⟨k,t,a,r,s,n,c⟩,⟨v3,v4,v5,v6,rfl,h1,h2,h3,h4,h5,h6⟩,by dsimp only; omega⟩
theorem E9 (x:Byt):∀ u∈x.map bv,u.oneCell'=true:=λu hu=>by obtain ⟨y,_,rfl⟩:=List.mem_map.1 hu; rfl
theorem Q4:B7 43 102 (Z32++([Value.int .u64 0]++([Value.int .u64 0]++(Z32++(Z32++([Value.slice none 0 0]++([Value.bool false]++([Value.int .i64 0]++[Value.slice none 0 0])))))))) Ds Jq:=λw0 gc gr gx f tx A Z sl s R S hS hA he hl hv w hw=>by
 refine Sy.enterT (args:=[ptr gc,pT gx f]) hw Tryz.func43 J kL<|sC<|sp J<|sp J<|sp J<|sP (pT gx f)<|Sy.callT (λw hw=>Cy w0.inn gc gr gx f tx A ([Value.int .u64 0]++([Value.int .u64 0]++(Z32++(Z32++([Value.slice none 0 0]++([Value.bool false]++(([Value.int .i64 0]++[Value.slice none 0 0])++Z))))))) sl s R S hS hA he hl hv w (by simpa only [List.append_assoc] using hw)) (λu M hM=>?_)
 obtain ⟨x1,s1,sl1,cs1,N1,a1,n1,o1,⟨rfl,r1⟩,e1,h1,y1,rfl⟩:=hM
 have g1:s1.rest.length≤s.rest.length:=h1
 have A1:(A++(x1.map bv)).length=f+32:=by rw [List.length_append,hA,n1]
 refine sA<|sp J<|sp J<|sp J<|sP (pT gx (f+32))<|Sy.callT (λw hw=>Fo w0.inn gc gr gx (f+32) tx (A++(x1.map bv)) ([Value.int .u64 0]++(Z32++(Z32++([Value.slice none 0 0]++([Value.bool false]++(([Value.int .i64 0]++[Value.slice none 0 0])++Z)))))) sl1 s1 (R++N1) S (λb h=>List.mem_append_left _ (hS b h)) A1 e1 (Nat.le_trans g1 hl) y1 w (by have e:A++(x1.map bv)++([Value.int .u64 0]++([Value.int .u64 0]++(Z32++(Z32++([Value.slice none 0 0]++([Value.bool false]++(([Value.int .i64 0]++[Value.slice none 0 0])++Z)))))))=A++(x1.map bv++([Value.int .u64 0]++([Value.int .u64 0]++(Z32++(Z32++([Value.slice none 0 0]++([Value.bool false]++(([Value.int .i64 0]++[Value.slice none 0 0])++Z)))))))):=List.append_assoc ..; rw [e]; exact hw)) (λu M hM=>?_)
 obtain ⟨x2,s2,sl2,cs2,N2,a2,n2,o2,⟨rfl,r2⟩,e2,h2,y2,rfl⟩:=hM
 have g2:s2.rest.length≤s.rest.length:=Nat.le_trans h2 g1
 have A2:(A++(x1.map bv)++[Value.int .u64 (x2:Int)]).length=f+33:=by rw [List.length_append,A1,n2]
 refine sA<|sp J<|sp J<|sp J<|sP (pT gx (f+33))<|Sy.callT (λw hw=>Fo w0.inn gc gr gx (f+33) tx (A++(x1.map bv)++[Value.int .u64 (x2:Int)]) (Z32++(Z32++([Value.slice none 0 0]++([Value.bool false]++(([Value.int .i64 0]++[Value.slice none 0 0])++Z))))) sl2 s2 (R++N1++N2) S (λb h=>List.mem_append_left _ (List.mem_append_left _ (hS b h))) A2 e2 (Nat.le_trans g2 hl) y2 w (by have e:A++(x1.map bv)++[Value.int .u64 (x2:Int)]++([Value.int .u64 0]++(Z32++(Z32++([Value.slice none 0 0]++([Value.bool false]++(([Value.int .i64 0]++[Value.slice none 0 0])++Z))))))=A++(x1.map bv)++([Value.int .u64 (x2:Int)]++([Value.int .u64 0]++(Z32++(Z32++([Value.slice none 0 0]++([Value.bool false]++(([Value.int .i64 0]++[Value.slice none 0 0])++Z))))))):=List.append_assoc ..; rw [e]; exact hw)) (λu M hM=>?_)
 obtain ⟨x3,s3,sl3,cs3,N3,a3,n3,o3,⟨rfl,r3⟩,e3,h3,y3,rfl⟩:=hM
 have g3:s3.rest.length≤s.rest.length:=Nat.le_trans h3 g2
 have A3:(A++(x1.map bv)++[Value.int .u64 (x2:Int)]++[Value.int .u64 (x3:Int)]).length=f+34:=by rw [List.length_append,A2,n3]
 refine sA<|sp J<|sp J<|sp J<|sP (pT gx (f+34))<|Sy.callT (λw hw=>Cy w0.inn gc gr gx (f+34) tx (A++(x1.map bv)++[Value.int .u64 (x2:Int)]++[Value.int .u64 (x3:Int)]) (Z32++([Value.slice none 0 0]++([Value.bool false]++(([Value.int .i64 0]++[Value.slice none 0 0])++Z)))) sl3 s3 (R++N1++N2++N3) S (λb h=>List.mem_append_left _ (List.mem_append_left _ (List.mem_append_left _ (hS b h)))) A3 e3 (Nat.le_trans g3 hl) y3 w (by have e:A++(x1.map bv)++[Value.int .u64 (x2:Int)]++[Value.int .u64 (x3:Int)]++(Z32++(Z32++([Value.slice none 0 0]++([Value.bool false]++(([Value.int .i64 0]++[Value.slice none 0 0])++Z)))))=A++(x1.map bv)++[Value.int .u64 (x2:Int)]++([Value.int .u64 (x3:Int)]++(Z32++(Z32++([Value.slice none 0 0]++([Value.bool false]++(([Value.int .i64 0]++[Value.slice none 0 0])++Z)))))):=List.append_assoc ..; rw [e]; exact hw)) (λu M hM=>?_)
 obtain ⟨x4,s4,sl4,cs4,N4,a4,n4,o4,⟨rfl,r4⟩,e4,h4,y4,rfl⟩:=hM
 have g4:s4.rest.length≤s.rest.length:=Nat.le_trans h4 g3
 have A4:(A++(x1.map bv)++[Value.int .u64 (x2:Int)]++[Value.int .u64 (x3:Int)]++(x4.map bv)).length=f+66:=by rw [List.length_append,A3,n4]
 refine sA<|sp J<|sp J<|sp J<|sP (pT gx (f+66))<|Sy.callT (λw hw=>Cy w0.inn gc gr gx (f+66) tx (A++(x1.map bv)++[Value.int .u64 (x2:Int)]++[Value.int .u64 (x3:Int)]++(x4.map bv)) ([Value.slice none 0 0]++([Value.bool false]++(([Value.int .i64 0]++[Value.slice none 0 0])++Z))) sl4 s4 (R++N1++N2++N3++N4) S (λb h=>List.mem_append_left _ (List.mem_append_left _ (List.mem_append_left _ (List.mem_append_left _ (hS b h))))) A4 e4 (Nat.le_trans g4 hl) y4 w (by have e:A++(x1.map bv)++[Value.int .u64 (x2:Int)]++[Value.int .u64 (x3:Int)]++(x4.map bv)++(Z32++([Value.slice none 0 0]++([Value.bool false]++(([Value.int .i64 0]++[Value.slice none 0 0])++Z))))=A++(x1.map bv)++[Value.int .u64 (x2:Int)]++[Value.int .u64 (x3:Int)]++(x4.map bv++(Z32++([Value.slice none 0 0]++([Value.bool false]++(([Value.int .i64 0]++[Value.slice none 0 0])++Z))))):=List.append_assoc ..; rw [e]; exact hw)) (λu M hM=>?_)
 obtain ⟨x5,s5,sl5,cs5,N5,a5,n5,o5,⟨rfl,r5⟩,e5,h5,y5,rfl⟩:=hM
 have g5:s5.rest.length≤s.rest.length:=Nat.le_trans h5 g4
 have A5:(A++(x1.map bv)++[Value.int .u64 (x2:Int)]++[Value.int .u64 (x3:Int)]++(x4.map bv)++(x5.map bv)).length=f+98:=by rw [List.length_append,A4,n5]
 refine sA<|sp J<|sp J<|sp J<|sP (pT gx (f+98))<|Sy.callT (λw hw=>ER 256 dZ w0.inn gc gr gx (f+98) tx (A++(x1.map bv)++[Value.int .u64 (x2:Int)]++[Value.int .u64 (x3:Int)]++(x4.map bv)++(x5.map bv)) ([Value.bool false]++(([Value.int .i64 0]++[Value.slice none 0 0])++Z)) sl5 s5 (R++N1++N2++N3++N4++N5) S (λb h=>List.mem_append_left _ (List.mem_append_left _ (List.mem_append_left _ (List.mem_append_left _ (List.mem_append_left _ (hS b h)))))) A5 e5 (Nat.le_trans g5 hl) y5 w (by have e:A++(x1.map bv)++[Value.int .u64 (x2:Int)]++[Value.int .u64 (x3:Int)]++(x4.map bv)++(x5.map bv)++([Value.slice none 0 0]++([Value.bool false]++(([Value.int .i64 0]++[Value.slice none 0 0])++Z)))=A++(x1.map bv)++[Value.int .u64 (x2:Int)]++[Value.int .u64 (x3:Int)]++(x4.map bv)++(x5.map bv++([Value.slice none 0 0]++([Value.bool false]++(([Value.int .i64 0]++[Value.slice none 0 0])++Z)))):=List.append_assoc ..; rw [e]; exact hw)) (λu M hM=>?_)
 obtain ⟨x6,s6,sl6,cs6,N6,a6,n6,o6,⟨v6,rfl,r6⟩,e6,h6,y6,rfl⟩:=hM
 have g6:s6.rest.length≤s.rest.length:=Nat.le_trans h6 g5
 have A6:(A++(x1.map bv)++[Value.int .u64 (x2:Int)]++[Value.int .u64 (x3:Int)]++(x4.map bv)++(x5.map bv)++[v6]).length=f+99:=by rw [List.length_append,A5,n6]
 refine sA<|sp J<|sp J<|sp J<|sP (pT gx (f+99))<|Sy.callT (λw hw=>Jd w0.inn gc gr gx (f+99) tx (A++(x1.map bv)++[Value.int .u64 (x2:Int)]++[Value.int .u64 (x3:Int)]++(x4.map bv)++(x5.map bv)++[v6]) (([Value.int .i64 0]++[Value.slice none 0 0])++Z) sl6 s6 (R++N1++N2++N3++N4++N5++N6) S (λb h=>List.mem_append_left _ (List.mem_append_left _ (List.mem_append_left _ (List.mem_append_left _ (List.mem_append_left _ (List.mem_append_left _ (hS b h))))))) A6 e6 (Nat.le_trans g6 hl) y6 w (by have e:A++(x1.map bv)++[Value.int .u64 (x2:Int)]++[Value.int .u64 (x3:Int)]++(x4.map bv)++(x5.map bv)++[v6]++([Value.bool false]++(([Value.int .i64 0]++[Value.slice none 0 0])++Z))=A++(x1.map bv)++[Value.int .u64 (x2:Int)]++[Value.int .u64 (x3:Int)]++(x4.map bv)++(x5.map bv)++([v6]++([Value.bool false]++(([Value.int .i64 0]++[Value.slice none 0 0])++Z))):=List.append_assoc ..; rw [e]; exact hw)) (λu M hM=>?_)
 obtain ⟨x7,s7,sl7,cs7,N7,a7,n7,o7,rfl,e7,h7,y7,rfl⟩:=hM
 have g7:s7.rest.length≤s.rest.length:=Nat.le_trans h7 g6
 have A7:(A++(x1.map bv)++[Value.int .u64 (x2:Int)]++[Value.int .u64 (x3:Int)]++(x4.map bv)++(x5.map bv)++[v6]++[Value.bool x7]).length=f+100:=by rw [List.length_append,A6,n7]
 refine sA<|sp J<|sp J<|sP (pT gx (f+99))<|sS (.bool x7) (Quiet.cell 1 gx (f+99) tx 4 (A++(x1.map bv)++[Value.int .u64 (x2:Int)]++[Value.int .u64 (x3:Int)]++(x4.map bv)++(x5.map bv)++[v6]++([Value.bool x7]++(([Value.int .i64 0]++[Value.slice none 0 0])++Z))).toArray _ _ J kR J uy4 J _ (by rw [List.getElem?_toArray,List.getElem?_append_right om,A6,show f+99 - (f+99)=0 by omega]; rfl)) ?_
 refine sG ?_
 cases x7
 case' true =>
  refine sT<|Sy.region<|sp J<|sp J<|sp J<|sP (pT gx (f+100))<|Sy.callT (λw hw=>QA w0.inn gc gr gx (f+100) tx (A++(x1.map bv)++[Value.int .u64 (x2:Int)]++[Value.int .u64 (x3:Int)]++(x4.map bv)++(x5.map bv)++[v6]++[Value.bool true]) Z sl7 s7 (R++N1++N2++N3++N4++N5++N6++N7) S (λb h=>List.mem_append_left _ (List.mem_append_left _ (List.mem_append_left _ (List.mem_append_left _ (List.mem_append_left _ (List.mem_append_left _ (List.mem_append_left _ (hS b h)))))))) A7 e7 (Nat.le_trans g7 hl) y7 w (by have e:A++(x1.map bv)++[Value.int .u64 (x2:Int)]++[Value.int .u64 (x3:Int)]++(x4.map bv)++(x5.map bv)++[v6]++[Value.bool true]++(([Value.int .i64 0]++[Value.slice none 0 0])++Z)=A++(x1.map bv)++[Value.int .u64 (x2:Int)]++[Value.int .u64 (x3:Int)]++(x4.map bv)++(x5.map bv)++[v6]++([Value.bool true]++(([Value.int .i64 0]++[Value.slice none 0 0])++Z)):=List.append_assoc ..; rw [e]; exact hw)) (λu M hM=>?_)
  obtain ⟨⟨x8,ks⟩,s8,sl8,cs8,N8,a8,n8,o8,⟨v8,rfl,r8⟩,e8,h8,y8,rfl⟩:=hM
  refine Sy.nil ?_
  have hAf:After Jq s ⟨x1,x2,x3,x4,x5,x6,true,⟨x8,ks⟩⟩ s8:=a1.bind (a2.bind (a3.bind (a4.bind (a5.bind (a6.bind (a7.bind (After.bind (by rw [if_pos J]; exact a8) (After.ret _ _))))))))
  have hLn:(x1.map bv++([Value.int .u64 (x2:Int)]++([Value.int .u64 (x3:Int)]++(x4.map bv++(x5.map bv++([v6]++([Value.bool true]++([Value.int .i64 x8]++[v8])))))))).length=102:=(by simp only [List.length_append,n1,n4,n5]; rfl)
  have hOn:∀ u∈(x1.map bv++([Value.int .u64 (x2:Int)]++([Value.int .u64 (x3:Int)]++(x4.map bv++(x5.map bv++([v6]++([Value.bool true]++([Value.int .i64 x8]++[v8])))))))),u.oneCell'=true:=AD o1 (AD o2 (AD o3 (AD o4 (AD o5 (AD o6 (AD o7 (Tc ⟨v8,rfl,r8⟩)))))))
  have hRp:Ds (rdB (N1++(N2++(N3++(N4++(N5++(N6++(N7++N8)))))))) (x1.map bv++([Value.int .u64 (x2:Int)]++([Value.int .u64 (x3:Int)]++(x4.map bv++(x5.map bv++([v6]++([Value.bool true]++([Value.int .i64 x8]++[v8])))))))) ⟨x1,x2,x3,x4,x5,x6,true,⟨x8,ks⟩⟩:=⟨v6,v8,rfl,r1,r4,r5,r2,r3,r6.le (AV λb h=>by simp [h]),LstR.le (rep:=Bj) Co (AV λb h=>by simp [h]) r8⟩
  exact Sy.retT0 J (CRS gc gr gx tx (A++((x1.map bv++([Value.int .u64 (x2:Int)]++([Value.int .u64 (x3:Int)]++(x4.map bv++(x5.map bv++([v6]++([Value.bool true]++([Value.int .i64 x8]++[v8]))))))))++Z)) sl8 s8.e (R++(N1++(N2++(N3++(N4++(N5++(N6++(N7++N8))))))))) (λ_ h=>by simpa only [List.append_assoc,List.cons_append,List.nil_append] using h) (λ_=>⟨_,s8,sl8,_,_,hAf,hLn,hOn,hRp,e8,Nat.le_trans h8 g7,y8,rfl⟩)
 refine sU<|Sy.region<|sp J<|sp J<|sp J<|sP (pT gx (f+100))<|sP (pT gx (f+100))<|sS (.int .i64 0) (Quiet.cell 1 gx (f+100) tx 3 (A++(x1.map bv)++[Value.int .u64 (x2:Int)]++[Value.int .u64 (x3:Int)]++(x4.map bv)++(x5.map bv)++[v6]++([Value.bool false]++(([Value.int .i64 0]++[Value.slice none 0 0])++Z))).toArray _ _ J kR J uy3 J _ (by rw [List.getElem?_toArray,List.getElem?_append_right om,A6,show f+100 - (f+99)=1 by omega]; rfl))<|sP (.bool true)<|sp J ?_
 refine sp J<|sp J<|sP (pT gx (f+100))<|sP (pT gx (f+101))<|sS (.slice none 0 0) (Quiet.cell 1 gx (f+101) tx 38 (A++(x1.map bv)++[Value.int .u64 (x2:Int)]++[Value.int .u64 (x3:Int)]++(x4.map bv)++(x5.map bv)++[v6]++([Value.bool false]++(([Value.int .i64 0]++[Value.slice none 0 0])++Z))).toArray _ _ J kR J FO J _ (by rw [List.getElem?_toArray,List.getElem?_append_right om,A6,show f+101 - (f+99)=2 by omega]; rfl))<|sP (.int .i64 0)<|sP (.bool true)<|sP (.bool true) ?_
 refine Sy.permS (M:=CRN gc gr sl7 s7.e ((gx,tx,(A++(x1.map bv)++[Value.int .u64 (x2:Int)]++[Value.int .u64 (x3:Int)]++(x4.map bv)++(x5.map bv)++[v6]++([Value.bool false]++(([Value.int .i64 0]++[Value.slice none 0 0])++Z))).toArray)::(R++N1++N2++N3++N4++N5++N6++N7))) Bs<|Sy.callT (λw hw=>Ct w0.inn gc gr sl7 s7.e e7 ((gx,tx,(A++(x1.map bv)++[Value.int .u64 (x2:Int)]++[Value.int .u64 (x3:Int)]++(x4.map bv)++(x5.map bv)++[v6]++([Value.bool false]++(([Value.int .i64 0]++[Value.slice none 0 0])++Z))).toArray)::(R++N1++N2++N3++N4++N5++N6++N7)) true w hw) (λu M hM=>?_)
 subst hM
 rw [if_pos J]
 refine Sy.permS (M:=CRS gc gr gx tx (A++(x1.map bv)++[Value.int .u64 (x2:Int)]++[Value.int .u64 (x3:Int)]++(x4.map bv)++(x5.map bv)++[v6]++([Value.bool false]++(([Value.int .i64 0]++[Value.slice none 0 0])++Z))) sl7 s7.e (R++N1++N2++N3++N4++N5++N6++N7)) Bs<|Sy.nil ?_
 ·have hAf:After Jq s ⟨x1,x2,x3,x4,x5,x6,false,⟨0,[]⟩⟩ s7:=a1.bind (a2.bind (a3.bind (a4.bind (a5.bind (a6.bind (a7.bind (After.bind (by rw [if_neg dZ]; exact After.ret _ _) (After.ret _ _))))))))
  have hLn:(x1.map bv++([Value.int .u64 (x2:Int)]++([Value.int .u64 (x3:Int)]++(x4.map bv++(x5.map bv++([v6]++([Value.bool false]++([Value.int .i64 0]++[Value.slice none 0 0])))))))).length=102:=(by simp only [List.length_append,n1,n4,n5]; rfl)
  have hOn:∀ u∈(x1.map bv++([Value.int .u64 (x2:Int)]++([Value.int .u64 (x3:Int)]++(x4.map bv++(x5.map bv++([v6]++([Value.bool false]++([Value.int .i64 0]++[Value.slice none 0 0])))))))),u.oneCell'=true:=AD o1 (AD o2 (AD o3 (AD o4 (AD o5 (AD o6 (AD o7 (Tc (C:=rdB []) (t:=⟨0,[]⟩) ⟨_,rfl,none,0,0,rfl,rfl,Nat.le_refl _,Nat.zero_le _,λh=>(h J).elim⟩)))))))
  have hRp:Ds (rdB (N1++(N2++(N3++(N4++(N5++(N6++N7))))))) (x1.map bv++([Value.int .u64 (x2:Int)]++([Value.int .u64 (x3:Int)]++(x4.map bv++(x5.map bv++([v6]++([Value.bool false]++([Value.int .i64 0]++[Value.slice none 0 0])))))))) ⟨x1,x2,x3,x4,x5,x6,false,⟨0,[]⟩⟩:=⟨v6,Value.slice none 0 0,rfl,r1,r4,r5,r2,r3,r6.le (AV λb h=>by simp [h]),⟨none,0,0,rfl,rfl,Nat.le_refl _,Nat.zero_le _,λh=>(h J).elim⟩⟩
  exact Sy.retT0 J (CRS gc gr gx tx (A++((x1.map bv++([Value.int .u64 (x2:Int)]++([Value.int .u64 (x3:Int)]++(x4.map bv++(x5.map bv++([v6]++([Value.bool false]++([Value.int .i64 0]++[Value.slice none 0 0]))))))))++Z)) sl7 s7.e (R++(N1++(N2++(N3++(N4++(N5++(N6++N7)))))))) (λ_ h=>by simpa only [List.append_assoc,List.cons_append,List.nil_append] using h) (λ_=>⟨_,s7,sl7,_,_,hAf,hLn,hOn,hRp,e7,g7,y7,rfl⟩)
theorem QN {C:Rdr} {cs:List Value} {t:MHe} (h:Ds C cs t):∀ u∈cs,u.oneCell'=true:=by
 obtain ⟨vr,vk,rfl,_,_,_,_,_,h1,h2⟩:=h
 exact AD (E9 _) (AD (λu hu=>by rw [List.mem_singleton.1 hu]; rfl) (AD (λu hu=>by rw [List.mem_singleton.1 hu]; rfl) (AD (E9 _) (AD (E9 _) (AD (λu hu=>by rw [List.mem_singleton.1 hu]; exact h1.cells.2) (AD (λu hu=>by rw [List.mem_singleton.1 hu]; rfl) (AD (λu hu=>by rw [List.mem_singleton.1 hu]; rfl) (λu hu=>by rw [List.mem_singleton.1 hu]; exact h2.cells.2))))))))
theorem After.mustX {α:Type} (f:Unit→Ps α) (y:α) {s s':RS} (h:s'.e≠0):After (AH (BH false) f) s y s':=⟨λ_=>h,λz r _ hp=>(by cases hp),λ_ _=>h⟩
theorem After.mustY {α:Type} {f:Unit→Ps α} {b:Bool} {y:α} {s s':RS} (hb:b=true) (h:After (f ()) s y s'):After (AH (BH b) f) s y s':=by subst hb; exact h
theorem J0:∀ u∈[Value.slice none 0 0],u.oneCell'=true:=λu hu=>by rw [List.mem_singleton.1 hu]; rfl
theorem VX:B7 46 58 ([Value.int .i64 0]++(([Value.bool false]++(Z32++lPT ⟨0,0,false⟩))++(([Value.bool false]++([Value.int .u64 0]++lPT ⟨0,0,false⟩))++([Value.slice none 0 0]++([Value.slice none 0 0]++([Value.slice none 0 0]++([Value.slice none 0 0]))))))) Cg Gn:=λw0 gc gr gx f tx A Z sl s R S hS hA he hl hv w hw=>by
 refine Sy.enterT (args:=[ptr gc,pT gx f]) hw Tryz.func46 J kL<|sC<|sp J<|sp J<|sp J<|sP (pT gx f)<|Sy.callT (λw hw=>E_ w0.inn gc gr gx f tx A (([Value.bool false]++(Z32++lPT ⟨0,0,false⟩))++(([Value.bool false]++([Value.int .u64 0]++lPT ⟨0,0,false⟩))++([Value.slice none 0 0]++([Value.slice none 0 0]++([Value.slice none 0 0]++([Value.slice none 0 0]++(Z))))))) sl s R S hS hA he hl hv w (by simpa only [List.append_assoc] using hw)) (λu M hM=>?_)
 obtain ⟨x1,s1,sl1,cs1,N1,a1,n1,o1,rfl,e1,h1,y1,rfl⟩:=hM
 have g1:s1.rest.length≤s.rest.length:=h1
 have A1:(A++[Value.int .i64 x1]).length=f+1:=by rw [List.length_append,hA,n1]
 refine sA<|sp J<|sp J<|sP (pT gx f)<|sS (.int .i64 x1) (Quiet.cell 1 gx f tx 3 (A++([Value.int .i64 x1]++(([Value.bool false]++(Z32++lPT ⟨0,0,false⟩))++(([Value.bool false]++([Value.int .u64 0]++lPT ⟨0,0,false⟩))++([Value.slice none 0 0]++([Value.slice none 0 0]++([Value.slice none 0 0]++([Value.slice none 0 0]++(Z))))))))).toArray _ _ J kR J uy3 J _ (by rw [List.getElem?_toArray,List.getElem?_append_right om,hA,Nat.sub_self]; rfl)) ?_
 refine sG<|Sy.block<|Sy.seq<|Sy.block ?_
 by_cases hk:x1=1∨x1=2∨x1=3∨x1=4
 ·obtain ⟨k1,k2⟩:=NF hk
  refine Sy.seq<|DN [(0,ptr gc),(1,pT gx f)] (CRS gc gr gx tx (A++([Value.int .i64 x1]++(([Value.bool false]++(Z32++lPT ⟨0,0,false⟩))++(([Value.bool false]++([Value.int .u64 0]++lPT ⟨0,0,false⟩))++([Value.slice none 0 0]++([Value.slice none 0 0]++([Value.slice none 0 0]++([Value.slice none 0 0]++(Z))))))))) sl1 s1.e (R++N1)) ?_ ?_
  ·clear a1 n1 o1 A1 k1 k2
   rcases hk with rfl|rfl|rfl|rfl
   ·refine Sy.block<|Sy.block<|Sy.block<|Sy.block<|Sy.seq<|Sy.seq<|sC ?_
    refine sP (.bool true)<|sp J<|sG<|sT<|Sy.exit<|Sy.then_exit<|Sy.then_exit<|Sy.in_exit<|Sy.in_<|Sy.in_<|Sy.in_ ?_
    exact A_ ac2 (λ_ h=>h)
   ·refine Sy.block<|Sy.block<|Sy.block<|Sy.block<|Sy.seq<|Sy.seq<|sC ?_
    refine sP (.bool false)<|sp J<|sG<|sU<|Sy.skip<|Sy.then_<|Sy.seq<|sC<|sP (.bool true)<|sp J<|sG<|sT<|Sy.exit<|Sy.then_exit<|Sy.then_exit<|Sy.in_pass (by decide)<|Sy.in_exit<|Sy.in_<|Sy.in_ ?_
    exact A_ ac2 (λ_ h=>h)
   ·refine Sy.block<|Sy.block<|Sy.block<|Sy.block<|Sy.seq<|Sy.seq<|sC ?_
    refine sP (.bool false)<|sp J<|sG<|sU<|Sy.skip<|Sy.then_<|Sy.seq<|sC<|sP (.bool false)<|sp J<|sG<|sU<|Sy.skip<|Sy.then_<|Sy.seq<|sC<|sP (.bool true)<|sp J<|sG<|sT<|Sy.exit<|Sy.then_exit<|Sy.then_exit<|Sy.in_pass (by decide)<|Sy.in_pass (by decide)<|Sy.in_exit<|Sy.in_ ?_
    exact A_ ac2 (λ_ h=>h)
   ·refine Sy.block<|Sy.block<|Sy.block<|Sy.block<|Sy.seq<|Sy.seq<|sC ?_
    refine sP (.bool false)<|sp J<|sG<|sU<|Sy.skip<|Sy.then_<|Sy.seq<|sC<|sP (.bool false)<|sp J<|sG<|sU<|Sy.skip<|Sy.then_<|Sy.seq<|sC<|sP (.bool false)<|sp J<|sG<|sU<|Sy.skip<|Sy.then_<|sC<|sP (.bool true)<|sp J<|sG<|sT<|Sy.exit<|Sy.then_exit<|Sy.in_pass (by decide)<|Sy.in_pass (by decide)<|Sy.in_pass dZ ?_
    refine Sy.in_exit ?_
    exact A_ ac2 (λ_ h=>h)
  refine Sy.then_<|Sy.seq<|sC<|sp J<|sp J<|sp J<|sP (pT gx (f+1))<|Sy.callT (λw hw=>VE w0.inn gc gr gx (f+1) tx (A++[Value.int .i64 x1]) (([Value.bool false]++([Value.int .u64 0]++lPT ⟨0,0,false⟩))++([Value.slice none 0 0]++([Value.slice none 0 0]++([Value.slice none 0 0]++([Value.slice none 0 0]++(Z)))))) sl1 s1 (R++N1) S (λb h=>List.mem_append_left _ (hS b h)) A1 e1 (Nat.le_trans g1 hl) y1 w (by have e:A++[Value.int .i64 x1]++(([Value.bool false]++(Z32++lPT ⟨0,0,false⟩))++(([Value.bool false]++([Value.int .u64 0]++lPT ⟨0,0,false⟩))++([Value.slice none 0 0]++([Value.slice none 0 0]++([Value.slice none 0 0]++([Value.slice none 0 0]++(Z)))))))=A++([Value.int .i64 x1]++(([Value.bool false]++(Z32++lPT ⟨0,0,false⟩))++(([Value.bool false]++([Value.int .u64 0]++lPT ⟨0,0,false⟩))++([Value.slice none 0 0]++([Value.slice none 0 0]++([Value.slice none 0 0]++([Value.slice none 0 0]++(Z)))))))):=List.append_assoc ..; rw [e]; exact hw)) (λu M hM=>?_)
  obtain ⟨x2,s2,sl2,cs2,N2,a2,n2,o2,⟨rfl,r2⟩,e2,h2,y2,rfl⟩:=hM
  have g2:s2.rest.length≤s.rest.length:=Nat.le_trans h2 g1
  have A2:(A++[Value.int .i64 x1]++(cTG x2)).length=f+43:=by rw [List.length_append,A1,n2]
  refine sA<|sp J<|sp J<|sp J<|sP (pT gx (f+43))<|Sy.callT (λw hw=>LX w0.inn gc gr gx (f+43) tx (A++[Value.int .i64 x1]++(cTG x2)) ([Value.slice none 0 0]++([Value.slice none 0 0]++([Value.slice none 0 0]++([Value.slice none 0 0]++(Z))))) sl2 s2 (R++N1++N2) S (λb h=>List.mem_append_left _ (List.mem_append_left _ (hS b h))) A2 e2 (Nat.le_trans g2 hl) y2 w (by have e:A++[Value.int .i64 x1]++(cTG x2)++(([Value.bool false]++([Value.int .u64 0]++lPT ⟨0,0,false⟩))++([Value.slice none 0 0]++([Value.slice none 0 0]++([Value.slice none 0 0]++([Value.slice none 0 0]++(Z))))))=A++[Value.int .i64 x1]++(cTG x2++(([Value.bool false]++([Value.int .u64 0]++lPT ⟨0,0,false⟩))++([Value.slice none 0 0]++([Value.slice none 0 0]++([Value.slice none 0 0]++([Value.slice none 0 0]++(Z))))))):=List.append_assoc ..; rw [e]; exact hw)) (λu M hM=>?_)
  obtain ⟨x3,s3,sl3,cs3,N3,a3,n3,o3,⟨rfl,r3⟩,e3,h3,y3,rfl⟩:=hM
  have g3:s3.rest.length≤s.rest.length:=Nat.le_trans h3 g2
  have A3:(A++[Value.int .i64 x1]++(cTG x2)++(cAM x3)).length=f+54:=by rw [List.length_append,A2,n3]
  refine sA<|sp J<|sp J<|sp J<|sP (pT gx (f+54))<|Sy.callT (λw hw=>ER 6000 dZ w0.inn gc gr gx (f+54) tx (A++[Value.int .i64 x1]++(cTG x2)++(cAM x3)) ([Value.slice none 0 0]++([Value.slice none 0 0]++([Value.slice none 0 0]++(Z)))) sl3 s3 (R++N1++N2++N3) S (λb h=>List.mem_append_left _ (List.mem_append_left _ (List.mem_append_left _ (hS b h)))) A3 e3 (Nat.le_trans g3 hl) y3 w (by have e:A++[Value.int .i64 x1]++(cTG x2)++(cAM x3)++([Value.slice none 0 0]++([Value.slice none 0 0]++([Value.slice none 0 0]++([Value.slice none 0 0]++(Z)))))=A++[Value.int .i64 x1]++(cTG x2)++(cAM x3++([Value.slice none 0 0]++([Value.slice none 0 0]++([Value.slice none 0 0]++([Value.slice none 0 0]++(Z)))))):=List.append_assoc ..; rw [e]; exact hw)) (λu M hM=>?_)
  obtain ⟨x4,s4,sl4,cs4,N4,a4,n4,o4,⟨v4,rfl,r4⟩,e4,h4,y4,rfl⟩:=hM
  have g4:s4.rest.length≤s.rest.length:=Nat.le_trans h4 g3
  have A4:(A++[Value.int .i64 x1]++(cTG x2)++(cAM x3)++[v4]).length=f+55:=by rw [List.length_append,A3,n4]
  refine sA<|sp J<|sp J<|sp J<|sP (pT gx (f+55))<|Sy.callT (λw hw=>ER 6000 dZ w0.inn gc gr gx (f+55) tx (A++[Value.int .i64 x1]++(cTG x2)++(cAM x3)++[v4]) ([Value.slice none 0 0]++([Value.slice none 0 0]++(Z))) sl4 s4 (R++N1++N2++N3++N4) S (λb h=>List.mem_append_left _ (List.mem_append_left _ (List.mem_append_left _ (List.mem_append_left _ (hS b h))))) A4 e4 (Nat.le_trans g4 hl) y4 w (by have e:A++[Value.int .i64 x1]++(cTG x2)++(cAM x3)++[v4]++([Value.slice none 0 0]++([Value.slice none 0 0]++([Value.slice none 0 0]++(Z))))=A++[Value.int .i64 x1]++(cTG x2)++(cAM x3)++([v4]++([Value.slice none 0 0]++([Value.slice none 0 0]++([Value.slice none 0 0]++(Z))))):=List.append_assoc ..; rw [e]; exact hw)) (λu M hM=>?_)
  obtain ⟨x5,s5,sl5,cs5,N5,a5,n5,o5,⟨v5,rfl,r5⟩,e5,h5,y5,rfl⟩:=hM
  have g5:s5.rest.length≤s.rest.length:=Nat.le_trans h5 g4
  have A5:(A++[Value.int .i64 x1]++(cTG x2)++(cAM x3)++[v4]++[v5]).length=f+56:=by rw [List.length_append,A4,n5]
  refine sA<|sp J<|sp J<|sp J<|sP (pT gx (f+56))<|Sy.callT (λw hw=>ER 128 dZ w0.inn gc gr gx (f+56) tx (A++[Value.int .i64 x1]++(cTG x2)++(cAM x3)++[v4]++[v5]) ([Value.slice none 0 0]++(Z)) sl5 s5 (R++N1++N2++N3++N4++N5) S (λb h=>List.mem_append_left _ (List.mem_append_left _ (List.mem_append_left _ (List.mem_append_left _ (List.mem_append_left _ (hS b h)))))) A5 e5 (Nat.le_trans g5 hl) y5 w (by have e:A++[Value.int .i64 x1]++(cTG x2)++(cAM x3)++[v4]++[v5]++([Value.slice none 0 0]++([Value.slice none 0 0]++(Z)))=A++[Value.int .i64 x1]++(cTG x2)++(cAM x3)++[v4]++([v5]++([Value.slice none 0 0]++([Value.slice none 0 0]++(Z)))):=List.append_assoc ..; rw [e]; exact hw)) (λu M hM=>?_)
  obtain ⟨x6,s6,sl6,cs6,N6,a6,n6,o6,⟨v6,rfl,r6⟩,e6,h6,y6,rfl⟩:=hM
  have g6:s6.rest.length≤s.rest.length:=Nat.le_trans h6 g5
  have A6:(A++[Value.int .i64 x1]++(cTG x2)++(cAM x3)++[v4]++[v5]++[v6]).length=f+57:=by rw [List.length_append,A5,n6]
  refine Sy.nil<|Sy.then_<|Sy.region<|sp J<|sp J<|sp J<|sP (pT gx (f+57))<|Sy.callT (λw hw=>ER 256 dZ w0.inn gc gr gx (f+57) tx (A++[Value.int .i64 x1]++(cTG x2)++(cAM x3)++[v4]++[v5]++[v6]) Z sl6 s6 (R++N1++N2++N3++N4++N5++N6) S (λb h=>List.mem_append_left _ (List.mem_append_left _ (List.mem_append_left _ (List.mem_append_left _ (List.mem_append_left _ (List.mem_append_left _ (hS b h))))))) A6 e6 (Nat.le_trans g6 hl) y6 w (by have e:A++[Value.int .i64 x1]++(cTG x2)++(cAM x3)++[v4]++[v5]++[v6]++([Value.slice none 0 0]++(Z))=A++[Value.int .i64 x1]++(cTG x2)++(cAM x3)++[v4]++[v5]++([v6]++([Value.slice none 0 0]++(Z))):=List.append_assoc ..; rw [e]; exact hw)) (λu M hM=>?_)
  obtain ⟨x7,s7,sl7,cs7,N7,a7,n7,o7,⟨v7,rfl,r7⟩,e7,h7,y7,rfl⟩:=hM
  have g7:s7.rest.length≤s.rest.length:=Nat.le_trans h7 g6
  have A7:(A++[Value.int .i64 x1]++(cTG x2)++(cAM x3)++[v4]++[v5]++[v6]++[v7]).length=f+58:=by rw [List.length_append,A6,n7]
  refine Sy.nil<|Sy.then_<|Sy.exit<|Sy.in_pass (by decide)<|Sy.then_exit<|Sy.in_exit ?_
  have hAf:After Gn s ⟨x1,x2,x3,x4,x5,x6,x7⟩ s7:=a1.bind (After.mustY k1 (a2.bind (a3.bind (a4.bind (a5.bind (a6.bind (a7.bind (After.ret _ _))))))))
  have hLn:([Value.int .i64 x1]++(cTG x2++(cAM x3++([v4]++([v5]++([v6]++([v7]))))))).length=58:=by simp only [List.length_append,n2,n3]; rfl
  have hOn:∀ u∈([Value.int .i64 x1]++(cTG x2++(cAM x3++([v4]++([v5]++([v6]++([v7]))))))),u.oneCell'=true:=AD o1 (AD o2 (AD o3 (AD o4 (AD o5 (AD o6 o7)))))
  have hRp:Cg (rdB (N1++(N2++(N3++(N4++(N5++(N6++N7))))))) ([Value.int .i64 x1]++(cTG x2++(cAM x3++([v4]++([v5]++([v6]++([v7]))))))) ⟨x1,x2,x3,x4,x5,x6,x7⟩:=⟨v4,v5,v6,v7,rfl,r2,r3,r4.le (AV λb h=>by simp [h]),r5.le (AV λb h=>by simp [h]),r6.le (AV λb h=>by simp [h]),r7.le (AV λb h=>by simp [h])⟩
  exact Sy.retT0 J (CRS gc gr gx tx (A++(([Value.int .i64 x1]++(cTG x2++(cAM x3++([v4]++([v5]++([v6]++([v7])))))))++Z)) sl7 s7.e (R++(N1++(N2++(N3++(N4++(N5++(N6++N7)))))))) (λ_ h=>by simpa only [List.append_assoc,List.cons_append,List.nil_append] using h) (λ_=>⟨_,s7,sl7,_,_,hAf,hLn,hOn,hRp,e7,g7,y7,rfl⟩)
 refine Sy.seq<|Sy.block<|Sy.block<|Sy.block<|Sy.block<|Sy.seq<|Sy.seq<|sC<|sS (.bool false) (Quiet.pure (AE .eql _ _ _ .i64 _ _ _ J J J (Aa _ _ _ _ _ (decide_eq_false (λe=>hk (by simp [e]))))))<|sp J<|sG<|sU<|Sy.skip<|Sy.then_<|Sy.seq<|sC<|sS (.bool false) (Quiet.pure (AE .eql _ _ _ .i64 _ _ _ J J J (Aa _ _ _ _ _ (decide_eq_false (λe=>hk (by simp [e]))))))<|sp J<|sG<|sU<|Sy.skip<|Sy.then_<|Sy.seq<|sC<|sS (.bool false) (Quiet.pure (AE .eql _ _ _ .i64 _ _ _ J J J (Aa _ _ _ _ _ (decide_eq_false (λe=>hk (by simp [e]))))))<|sp J<|sG<|sU<|Sy.skip<|Sy.then_<|sC<|sS (.bool false) (Quiet.pure (AE .eql _ _ _ .i64 _ _ _ J J J (Aa _ _ _ _ _ (decide_eq_false (λe=>hk (by simp [e]))))))<|sp J<|sG<|sU<|Sy.skip<|Sy.then_<|Sy.exit<|Sy.in_pass (by decide)<|Sy.in_pass dZ ?_
 refine Sy.in_pass (by decide)<|Sy.in_pass (by decide)<|Sy.then_exit<|Sy.in_exit<|sB<|sp J ?_
 have p5:(CRS gc gr gx tx (A++([Value.int .i64 x1]++(([Value.bool false]++(Z32++lPT ⟨0,0,false⟩))++(([Value.bool false]++([Value.int .u64 0]++lPT ⟨0,0,false⟩))++([Value.slice none 0 0]++([Value.slice none 0 0]++([Value.slice none 0 0]++([Value.slice none 0 0]++(Z))))))))) sl1 s1.e (R++N1)).Perm (CRN gc gr sl1 s1.e ((gx,tx,(A++([Value.int .i64 x1]++(([Value.bool false]++(Z32++lPT ⟨0,0,false⟩))++(([Value.bool false]++([Value.int .u64 0]++lPT ⟨0,0,false⟩))++([Value.slice none 0 0]++([Value.slice none 0 0]++([Value.slice none 0 0]++([Value.slice none 0 0]++(Z))))))))).toArray)::(R++N1))):=Bs
 refine Sy.permS p5<|Sy.callT (λw hw=>Ct w0.inn gc gr sl1 s1.e e1 ((gx,tx,(A++([Value.int .i64 x1]++(([Value.bool false]++(Z32++lPT ⟨0,0,false⟩))++(([Value.bool false]++([Value.int .u64 0]++lPT ⟨0,0,false⟩))++([Value.slice none 0 0]++([Value.slice none 0 0]++([Value.slice none 0 0]++([Value.slice none 0 0]++(Z))))))))).toArray)::(R++N1)) false w hw) (λu M hM=>?_)
 subst hM
 obtain ⟨e2,he2⟩:=xE (if false=true then s1.e else if s1.e=0 then 120 else s1.e)
 rw [← he2]
 rw [if_neg dZ] at he2
 have he3:e2≠0:=by rw [he2]; split <;> omega
 have he4:e2≤200:=by rw [he2]; split <;> omega
 refine sG<|Sy.exit<|Sy.in_exit ?_
 have p6:(CRN gc gr sl1 e2 ((gx,tx,(A++([Value.int .i64 x1]++(([Value.bool false]++(Z32++lPT ⟨0,0,false⟩))++(([Value.bool false]++([Value.int .u64 0]++lPT ⟨0,0,false⟩))++([Value.slice none 0 0]++([Value.slice none 0 0]++([Value.slice none 0 0]++([Value.slice none 0 0]++(Z))))))))).toArray)::(R++N1))).Perm (CRS gc gr gx tx (A++([Value.int .i64 x1]++(([Value.bool false]++(Z32++lPT ⟨0,0,false⟩))++(([Value.bool false]++([Value.int .u64 0]++lPT ⟨0,0,false⟩))++([Value.slice none 0 0]++([Value.slice none 0 0]++([Value.slice none 0 0]++([Value.slice none 0 0]++(Z))))))))) sl1 e2 (R++N1)):=Bs
 have hno:okK x1=false:=Lx hk
 have hAf:After Gn s ⟨x1,⟨false,z32,⟨0,0,false⟩⟩,⟨false,0,⟨0,0,false⟩⟩,[],[],[],[]⟩ ⟨s1.rest,e2⟩:=a1.bind (by rw [hno]; exact After.mustX _ _ he3)
 have hLn:([Value.int .i64 x1]++(([Value.bool false]++(Z32++lPT ⟨0,0,false⟩))++(([Value.bool false]++([Value.int .u64 0]++lPT ⟨0,0,false⟩))++([Value.slice none 0 0]++([Value.slice none 0 0]++([Value.slice none 0 0]++([Value.slice none 0 0]))))))).length=58:=rfl
 have hOn:∀ u∈([Value.int .i64 x1]++(([Value.bool false]++(Z32++lPT ⟨0,0,false⟩))++(([Value.bool false]++([Value.int .u64 0]++lPT ⟨0,0,false⟩))++([Value.slice none 0 0]++([Value.slice none 0 0]++([Value.slice none 0 0]++([Value.slice none 0 0]))))))),u.oneCell'=true:=AD o1 (AD (AD (λu hu=>by rw [List.mem_singleton.1 hu]; rfl) (AD (Bv z32) (CF _))) (AD (AD (λu hu=>by rw [List.mem_singleton.1 hu]; rfl) (AD (λu hu=>by rw [List.mem_singleton.1 hu]; rfl) (CF _))) (AD J0 (AD J0 (AD J0 J0)))))
 have hRp:Cg (rdB N1) ([Value.int .i64 x1]++(([Value.bool false]++(Z32++lPT ⟨0,0,false⟩))++(([Value.bool false]++([Value.int .u64 0]++lPT ⟨0,0,false⟩))++([Value.slice none 0 0]++([Value.slice none 0 0]++([Value.slice none 0 0]++([Value.slice none 0 0]))))))) ⟨x1,⟨false,z32,⟨0,0,false⟩⟩,⟨false,0,⟨0,0,false⟩⟩,[],[],[],[]⟩:=⟨.slice none 0 0,.slice none 0 0,.slice none 0 0,.slice none 0 0,rfl,⟨rfl,(show 0<Cu.K4 by decide),(show 0<Cu.K4 by decide)⟩,⟨(show (0:Nat)<18446744073709551616 by decide),(show 0<Cu.K4 by decide),(show 0<Cu.K4 by decide)⟩,BytR.nil _,BytR.nil _,BytR.nil _,BytR.nil _⟩
 have hcs:A++(([Value.int .i64 x1]++(([Value.bool false]++(Z32++lPT ⟨0,0,false⟩))++(([Value.bool false]++([Value.int .u64 0]++lPT ⟨0,0,false⟩))++([Value.slice none 0 0]++([Value.slice none 0 0]++([Value.slice none 0 0]++([Value.slice none 0 0])))))))++Z)=A++([Value.int .i64 x1]++(([Value.bool false]++(Z32++lPT ⟨0,0,false⟩))++(([Value.bool false]++([Value.int .u64 0]++lPT ⟨0,0,false⟩))++([Value.slice none 0 0]++([Value.slice none 0 0]++([Value.slice none 0 0]++([Value.slice none 0 0]++(Z)))))))):=by simp only [List.append_assoc]
 exact Sy.retT0 J (CRS gc gr gx tx (A++(([Value.int .i64 x1]++(([Value.bool false]++(Z32++lPT ⟨0,0,false⟩))++(([Value.bool false]++([Value.int .u64 0]++lPT ⟨0,0,false⟩))++([Value.slice none 0 0]++([Value.slice none 0 0]++([Value.slice none 0 0]++([Value.slice none 0 0])))))))++Z)) sl1 e2 (R++N1)) (λ_ h=>by rw [hcs]; exact h.perm p6) (λ_=>⟨_,⟨s1.rest,e2⟩,sl1,_,N1,hAf,hLn,hOn,hRp,he4,h1,y1,rfl⟩)
theorem Vd {C:Rdr} {cs:List Value} {t:MOu} (h:Cg C cs t):∀ u∈cs,u.oneCell'=true:=by
 obtain ⟨vr,vs,vn,vc,rfl,_,_,h1,h2,h3,h4⟩:=h
 exact AD (λu hu=>by rw [List.mem_singleton.1 hu]; rfl) (AD (AD (λu hu=>by rw [List.mem_singleton.1 hu]; rfl) (AD (Bv _) (CF _))) (AD (AD (λu hu=>by rw [List.mem_singleton.1 hu]; rfl) (AD (λu hu=>by rw [List.mem_singleton.1 hu]; rfl) (CF _))) (AD (λu hu=>by rw [List.mem_singleton.1 hu]; exact h1.cells.2) (AD (λu hu=>by rw [List.mem_singleton.1 hu]; exact h2.cells.2) (AD (λu hu=>by rw [List.mem_singleton.1 hu]; exact h3.cells.2) (λu hu=>by rw [List.mem_singleton.1 hu]; exact h4.cells.2))))))
noncomputable def NT:TypeInfo:=(Tryz.prog.info? 63).getD default
theorem E1:Tryz.prog.info? 63=some NT:=kZ
noncomputable def K_ous:LK:=⟨63,24,156,202,115,241,243,310,309,357,62,111,112,113,114,174,212,46,58,304,([Value.int .i64 0]++(([Value.bool false]++(Z32++lPT ⟨0,0,false⟩))++(([Value.bool false]++([Value.int .u64 0]++lPT ⟨0,0,false⟩))++([Value.slice none 0 0]++([Value.slice none 0 0]++([Value.slice none 0 0]++([Value.slice none 0 0]))))))),NT⟩
theorem QQ:K_ous.Ok:={
 c_f0:=⟨_,_,Tryz.func62⟩,
 c_fL:=⟨_,_,Tryz.func111⟩,
 c_f1:=⟨_,_,Tryz.func112⟩,
 c_fP:=⟨_,_,Tryz.func113⟩,
 c_f2:=⟨_,_,Tryz.func114⟩,
 c_fI:=⟨_,_,Tryz.func174⟩,
 c_fJ:=⟨_,_,Tryz.func212⟩,
 ute:=⟨_,OA,rfl⟩,
 uts:=Gh,
 ufw:=⟨_,VC,rfl⟩,
 ufr:=⟨_,U9,rfl⟩,
 inf:=E1,
 zero:=⟨_,rfl,by kernel_rfl⟩,
 size:=rfl,
 byt:=rfl,
 zl:=kZ,
 pos:=(by decide:0<58),
 top:=(by decide:58≤16777216),
 btop:=(by decide:304≤100000000),
 its:=kZ,
 ifw:=kZ,
 ifr:=kZ,
 zts:=⟨(Tryz.prog.info? 24).getD default,by kernel_rfl,by kernel_rfl⟩,
 e_fe:=enters_of Tryz.func46 kR J,
 e_f2:=enters_of Tryz.func114 kR J,
 e_fP:=enters_of Tryz.func113 kR J,
 e_f1:=enters_of Tryz.func112 kR J,
 e_fL:=enters_of Tryz.func111 kR J,
 e_fI:=enters_of Tryz.func174 kR J,
 e_fJ:=enters_of Tryz.func212 kR J }
theorem MJ {α:Type} {rep:Rdr→List Value→α→Prop} {ok:α→Bool} {enc:α→Byt} {wt:α→Nat} (hm:BN rep) (hp:Fw 46 58 rep ok enc wt) (w0:Base) (gc gw gx f most:Nat) (hmo:most<1000000) (bad:Bool) (s:Slc) (R:AA) (b:Byt) (v:Value) (l:List α) (hv:LstR (rdC w0 R) 58 rep v l) (hc:rdC w0 R gx f v) (hb:BS s b) (hlen:b.length+(9+(l.map wt).sum)≤70368744170000) (w:World) (hw:St w0 w (CWS gc gw bad s R)) :
  Calls Tryz.prog 62 #[ptr gc,pT gx f,.int .i64 (most:Int),.func (.func 46) #[] #[]] w (AQ w0 (WrC gc gw R (decide (l.length≤most) && l.all ok) (Ap l.length++l.flatMap enc) (9+(l.map wt).sum) bad b)):=EZ (rep:=rep) (ok:=ok) (enc:=enc) (wt:=wt) QQ hm hp w0 gc gw gx f most hmo bad s R b v l hv hc hb hlen w hw
theorem MP {α:Type} {rep:Rdr→List Value→α→Prop} {p:Ps α} (hm:BN rep) (hp:B7 46 58 (([Value.int .i64 0]++(([Value.bool false]++(Z32++lPT ⟨0,0,false⟩))++(([Value.bool false]++([Value.int .u64 0]++lPT ⟨0,0,false⟩))++([Value.slice none 0 0]++([Value.slice none 0 0]++([Value.slice none 0 0]++([Value.slice none 0 0])))))))) rep p) (w0:Base) (gc gr gx f most:Nat) (hmost:most<1000000) (tx:TypeId) (A Z:List Value) (sl:Value) (s:RS) (R S:AA) (hS:∀ b∈S,b∈R) (hA:A.length=f) (he:s.e≤200) (hl:s.rest.length≤70368744177664) (hv:BytR (rdC w0 S) sl s.rest) (w:World) (hw:St w0 w (CRS gc gr gx tx (A++([Value.slice none 0 0]++Z)) sl s.e R)) :
  Calls Tryz.prog 62 #[ptr gc,pT gx f,.int .i64 (most:Int),.func (.func 46) #[] #[]] w (AQ w0 (RdT 1 (Iz 58 rep) (Ch most p) w0 gc gr gx tx A Z s R S)):=Ea (rep:=rep) (p:=p) QQ hm hp w0 gc gr gx f most hmost tx A Z sl s R S hS hA he hl hv w hw
theorem E7 (w:World) (v:Value) (b:Byt) (hl:b.length≤8) (hv:BytR (rdW w) v b):AL 125 #[v] w (Ai w (uZ ((said b:Nat):Int))):=by
 obtain ⟨A,n,cp,rfl,h2,h3,h4,h5⟩:=hv
 refine Sy.enter (args:=[.slice A n cp]) Tryz.func125 J kL<|sC<|sP (uZ 0)<|sA<|sP (uZ 0)<|sG<|Sy.seq<|sC<|sP (.int .i64 0)<|sG<|Sy.block<|Sy.loopT (Y:=Nat) n (λi a=>[(0,.slice A n cp),(3,uZ (a:Int)),(4,.int .i64 (i:Int))]) (λ_ _=>[]) (λi a=>a=said (b.take i)) 0 J ac3 (λ_ h=>h) (λi a hi ha=>?_)
 refine Sy.seq<|sC ?_
 obtain ⟨b2,hb2⟩:=xE (decide (i<n))
 refine sp J<|sp J<|sP (.int .i64 (n:Int))<|sS (.bool b2) (qls J J J hb2)<|sG ?_
 cases b2
 case' false =>
  have l2:=dN hb2
  obtain rfl:i=n:=om
  refine sU<|Sy.exit<|Sy.then_exit<|Sy.then_exit<|Sy.in_exit<|Sy.then_<|sC<|sp J<|sp J<|sG<|Sy.ret ?_
  rw [show said b=a by rw [ha,List.take_of_length_le om]]
  exact rV (uZ (a:Int)) J
 have l2:=dY hb2
 obtain ⟨u,hu⟩:∃ u,b[i]? = some u:=⟨_,List.getElem?_eq_getElem om⟩
 obtain ⟨g,o,hA,hq⟩:=h5 (by intro e; rw [e] at hu; cases hu)
 have ha2:a<72057594037927936:=by rw [ha]; exact KX b i om
 have hu2:=u.toNat_lt
 refine sT<|Sy.skip<|Sy.then_<|Sy.seq<|Sy.block<|Sy.region<|sp J<|sS (uZ ((256*a:Nat):Int)) (Quiet.pure (AE .mul _ _ _ .u64 _ _ _ J J J (J_ _ _ _ _ _ (by rw [show (256:Int)*(a:Int)=((256*a:Nat):Int) by omega]; exact wrap_u64 om om))))<|sp J<|sp J<|sS (.pointer (some ⟨g,o+i*1,none⟩)) (Quiet.pure (BJ 27 _ _ _ A g o n cp i 1 .i64 hA J J J Aw kF l2))<|sS (bv u) (Quiet.thereOne g (o+i*1) 5 _ _ J kR (hq i u hu).1 _ (by rw [Nat.mul_one]; exact (hq i u hu).2) uy5 J)<|sS (uZ ((u.toNat:Nat):Int)) (Quiet.pure (λw=>KC w _ _ _ u J J))<|sS (uZ ((256*a+u.toNat:Nat):Int)) (Quiet.pure (AE .add _ _ _ .u64 _ _ _ J J J (FD _ _ _ _ _ (by rw [← Int.natCast_add]; exact wrap_u64 om om))))<|sp J<|Sy.nil<|Sy.in_<|Sy.then_<|Sy.region<|sp J<|sS (iZ (i+1)) (qad J J J)<|sp J<|Sy.nil ?_
 exact Sy.againT (256*a+u.toNat) l2 (by show 256*a+u.toNat=_; rw [ha,I' b i u hu]) ac3 (λw h=>h)
abbrev rrV (sl:Value) (at_ e:Nat):Value:=.agg #[sl,.int .i64 (at_:Int),.int .i64 (e:Int)]
abbrev rrC (sl:Value) (at_ e:Nat):Array Value:=#[sl,.int .i64 (at_:Int),.int .i64 (e:Int)]
def BU (b:Byt) (at_ e n:Nat):Nat×Nat×Byt:=if e≠0 then (at_,e,[]) else if b.length - at_<n then (at_,110,[]) else (at_+n,0,(b.drop at_).take n)
theorem IE (w:World) (sl:Value) (b:Byt) (at_ e n:Nat) (hat:at_≤b.length) (hn:n≤70368744177664) (hl:b.length≤70368744177664) (hv:BytR (rdW w) sl b) :
  AL 149 #[rrV sl at_ e,.int .i64 (n:Int)] w (BD w (λv M=>∃ u,v=.tuple #[rrV sl (BU b at_ e n).1 (BU b at_ e n).2.1,u]∧ByN (BU b at_ e n).2.2 u M)):=by
 have hv0:=hv
 obtain ⟨A,m,cp,rfl,h2,h3,h4,h5⟩:=hv
 refine Sy.enter (args:=[rrV (.slice A m cp) at_ e,.int .i64 (n:Int)]) Tryz.func149 J kL<|sC<|sM 164 (rrC (.slice A m cp) at_ e) (λg2=>?_)
 refine sM 164 (rrC (.slice none 0 0) 0 0) (λg4=>?_)
 refine sP (.slice none 0 0)<|sG<|Sy.seq<|Sy.block<|sC ?_
 obtain ⟨b1,hb1⟩:=xE (decide (e≠0))
 refine sP (pT g2 2)<|sS (.int .i64 (e:Int)) (qc 0 2 J J En)<|sS (.bool b1) (qne J J J hb1)<|sp J<|sG ?_
 cases b1
 case' true =>
  have l1:=dY hb1
  have er:BU b at_ e n=(at_,e,[]):=if_pos l1
  rw [er]
  refine sT<|sC<|sS (rrV (.slice A m cp) at_ e) (qk 0 0 3 J J Bd)<|sw 1 J (rrC (.slice A m cp) at_ e) (wA J)<|sP (.slice none 0 0)<|sG<|Sy.ret<|Sy.in_ret<|Sy.then_ret ?_
  exact Sy.retGM2 [] rfl (.inl (Sy.Res.cell (ty':=164) g4 1 (rrC (.slice A m cp) at_ e) _ kZ J Bd J kZ J)) (.inl (show _=_ by kernel_rfl)) (λ_ h=>h.none) ⟨_,rfl,none,0,0,rfl,BS.nil⟩
 have l1:e=0:=Decidable.of_not_not (of_decide_eq_false hb1.symm)
 refine sU<|sC<|sp J<|sS (.bool false) (Quiet.pure (AE .lss _ _ _ .i64 _ _ _ J J J (DF _ _ _ _ _ (decide_eq_false om))))<|sp J<|sG<|sU<|sC ?_
 obtain ⟨b2,hb2⟩:=xE (decide (m - at_<n))
 refine sp J<|sP (pT g2 0)<|sS (.slice A m cp) (qc 0 0 J J Aw)<|sP (.int .i64 (m:Int))<|sP (pT g2 1)<|sS (.int .i64 (at_:Int)) (qc 0 1 J J uy3)<|sS (iZ (m - at_)) (qsb J J J)<|sS (.bool b2) (qgt J J J hb2)<|sp J<|sG ?_
 cases b2
 case' true =>
  have l2:=dY hb2
  have er:BU b at_ e n=(at_,110,[]):=by unfold BU; rw [if_neg (λh=>h l1),if_pos om]
  rw [er]
  refine sT<|sC<|sP (pT g2 2)<|sw 0 J (rrC (.slice A m cp) at_ 110) (wO 2 28 (.int .i64 110) rfl)<|sA<|sS (rrV (.slice A m cp) at_ 110) (qk 0 0 3 J J Bd)<|sw 1 J (rrC (.slice A m cp) at_ 110) (wA J)<|sP (.slice none 0 0)<|sG<|Sy.ret<|Sy.in_ret<|Sy.then_ret ?_
  exact Sy.retGM2 [] rfl (.inl (Sy.Res.cell (ty':=164) g4 1 (rrC (.slice A m cp) at_ 110) _ kZ J Bd J kZ J)) (.inl (show _=_ by kernel_rfl)) (λ_ h=>h.none) ⟨_,rfl,none,0,0,rfl,BS.nil⟩
 have l2:=dN hb2
 obtain ⟨x,hx⟩:=xE ((b.drop at_).take n)
 have er:BU b at_ e n=(at_+n,0,x):=by unfold BU; rw [if_neg (λh=>h l1),if_neg om,hx]
 rw [er]
 have hxl:x.length=n:=by rw [hx,List.length_take,List.length_drop]; omega
 obtain ⟨A2,hA2⟩:∃ A2,sliced A at_ (at_+n) cp 1=.slice A2 (at_+n - at_) (cp - at_):=⟨_,rfl⟩
 have hv2:BytR (rdC (Base.of w) []) (.slice A2 (at_+n - at_) (cp - at_)) x:=by
  have q:=(hv0.slice (l:=at_) (m:=at_+n) om om).le (EF (R:=[]))
  rw [hA2,Nat.add_sub_cancel_left] at q
  rw [hx,Nat.add_sub_cancel_left]; exact q
 subst l1
 refine sU<|Sy.skip<|Sy.in_<|sB<|sP (.slice none 0 0)<|sA<|sp J<|sP (pT g2 0)<|sS (.slice A m cp) (qc 0 0 J J Aw)<|sP (pT g2 1)<|sS (.int .i64 (at_:Int)) (qc 0 1 J J uy3)<|sP (pT g2 1)<|sS (.int .i64 (at_:Int)) (qc 0 1 J J uy3)<|sp J<|sS (iZ (at_+n)) (qad J J J)<|sS (.slice A2 (at_+n - at_) (cp - at_)) (Quiet.pure (λw=>by rw [← hA2]; exact LE _ _ _ _ m cp at_ (at_+n) rfl J J J om om w))<|Sy.appendM (pre:=[(g2,164,rrC (.slice A m cp) at_ 0),(g4,164,rrC (.slice none 0 0) 0 0)]) (r:=nilS) (T:=[]) kR 27 5 _ _ 1 1 Aw Cu.info_u8 J J J J dZ _ _ J BS.nil kR (D5 x) (DO x) A2 (at_+n - at_) (cp - at_) (by rw [As,hxl]; omega) om kR (λr=>BytR.from hv2 (λy hy=>by cases hy)) (by rw [As]; show (0+_)*1≤_; omega) (by rw [As]; show 0+_≤_; simp only [maxLen]; omega) (λr hr=>?_)
 have hr':BS r x:=hr
 refine sp J<|sA<|sP (pT g2 1)<|sS (.int .i64 (at_:Int)) (qc 0 1 J J uy3)<|sp J<|sS (iZ (at_+n)) (qad J J J)<|sP (pT g2 1)<|sw 0 J (rrC (.slice A m cp) (at_+n) 0) (wO 1 3 (iZ (at_+n)) J)<|sA<|sS (rrV (.slice A m cp) (at_+n) 0) (qk 0 0 3 J J Bd)<|sp J<|sw 1 J (rrC (.slice A m cp) (at_+n) 0) (wA J)<|sp J<|sG<|Sy.ret ?_
 exact Sy.retGM2 r.bl J (.inl (Sy.Res.cell (ty':=164) g4 1 (rrC (.slice A m cp) (at_+n) 0) _ kZ J Bd J kZ J)) (.inl (show _=_ by kernel_rfl)) (λ_ h=>Sy.St.less (L:=[(g2,164,rrC (.slice A m cp) (at_+n) 0),(g4,164,rrC (.slice A m cp) (at_+n) 0)]++(r.bl++[])) h (by rw [List.append_nil]; exact List.sublist_append_right _ _)) ⟨_,rfl,hr'.as⟩
theorem F8 (b:Byt) (at_ e n:Nat):(BU b at_ e n).2.2.length≤n:=by
 unfold BU
 split
 ·exact Nat.zero_le _
 ·split
  ·exact Nat.zero_le _
  ·show (List.take _ _).length≤_; rw [List.length_take]; omega
theorem K6 (w:World) (sl:Value) (b:Byt) (at_ e n:Nat) (hat:at_≤b.length) (hn:n≤8) (hl:b.length≤70368744177664) (hv:BytR (rdW w) sl b) :
  AL 179 #[rrV sl at_ e,.int .i64 (n:Int)] w (Ai w (.tuple #[rrV sl (BU b at_ e n).1 (BU b at_ e n).2.1,uZ ((said (BU b at_ e n).2.2:Nat):Int)])):=by
 have hv0:=hv
 have hxl:=F8 b at_ e n
 obtain ⟨f,hf⟩:=xE (BU b at_ e n)
 rw [← hf] at hxl ⊢
 obtain ⟨A,m,cp,rfl,h2,h3,h4,h5⟩:=hv
 refine Sy.enter (args:=[rrV (.slice A m cp) at_ e,.int .i64 (n:Int)]) Tryz.func179 J kL<|sC<|sM 164 (rrC (.slice A m cp) at_ e) (λg2=>?_)
 refine sM 164 (rrC (.slice none 0 0) 0 0) (λg4=>?_)
 refine sP (uZ 0)<|sA<|sS (rrV (.slice A m cp) at_ e) (qk 0 0 3 J J Bd)<|sp J<|Sy.callN kR 149 #[rrV (.slice A m cp) at_ e,.int .i64 (n:Int)] kF _ (λw' hw=>IE w' (.slice A m cp) b at_ e n hat om hl (hv0.at hw)) (λu M hM=>?_)
 rw [← hf] at hM
 obtain ⟨u,rfl,hu⟩:=hM
 refine sp J<|sp J<|sp J<|sw 0 J (rrC (.slice A m cp) f.1 f.2.1) (wA J)<|sp J<|Sy.nil<|sR (λj=>j == 3) ?_
 refine sa 1 J J<|sD 2 J (uZ ((said f.2.2:Nat):Int)) (qg (λw' hw=>E7 w' u f.2.2 om (hu.byt.le (λg o v h=>Ad (w0:=Base.of w) hw (R:=M) (λb hb=>List.mem_cons_of_mem _ (List.mem_cons_of_mem _ hb)) g o v (.inr h)))))<|sD 0 J (rrV (.slice A m cp) f.1 f.2.1) (qk 0 0 3 J J Bd)<|sx 3 J 1 J (rrC (.slice A m cp) f.1 f.2.1) (wA J)<|sa 4 J J<|sI<|Sy.ret ?_
 exact Sy.ret2 J (.inl (Sy.Res.cell (ty':=164) g4 1 (rrC (.slice A m cp) f.1 f.2.1) _ kZ J Bd J kZ J)) (.inl (show _=_ by kernel_rfl))
theorem BS.one (g:Nat) (x:UInt8):BS ⟨.slice (pA g) 1 1,[(g,5,#[bv x])]⟩ [x]:=⟨D5 [x],DO [x],.inr ⟨g,1,[],rfl,rfl,Nat.le_refl _,by decide⟩⟩
theorem Og (q:Nat):UInt8.ofNat (q%256)=UInt8.ofNat q:=by apply UInt8.toNat_inj.1; simp [UInt8.toNat_ofNat']
theorem Du (w:World) (n k:Nat) (hn:n<18446744073709551616) (hk:k≤8):AL 115 #[uZ (n:Int),.int .i64 (k:Int)] w (BD w (ByN (nb k n))):=by
 refine Sy.enter (args:=[uZ (n:Int),.int .i64 (k:Int)]) Tryz.func115 J kL<|sC<|sP (.slice none 0 0)<|sA<|sP (.slice none 0 0)<|sG<|Sy.seq<|sC<|sp J<|sS (.int .i64 ((k:Int) - 1)) (Quiet.pure (AE .sub _ _ _ .i64 _ _ _ J J J (Cf _ _ _ _ _ (BI om om))))<|sp J<|sG<|Sy.block<|Sy.loopT (Y:=Slc×Int) k (λi y=>[(0,uZ (n:Int)),(1,.int .i64 (k:Int)),(5,y.1.v),(6,.int .i64 y.2)]) (λi y=>y.1.bl++[]) (λi y=>BS y.1 ((nb k n).take i)∧y.2=(k:Int) - 1 - (i:Int)) (nilS,(k:Int) - 1) ⟨BS.nil,by show _=(k:Int) - 1 - ((0:Nat):Int); omega⟩ ac4 (λ_ h=>h) (λi y hi hy=>?_)
 obtain ⟨s,z⟩:=y
 obtain ⟨hs,hz⟩:=hy
 dsimp only at hs hz ⊢
 refine Sy.seq<|sC ?_
 obtain ⟨b1,hb1⟩:=xE (decide (i<k))
 refine sp J<|sS (.bool b1) (qge J J J hb1)<|sG ?_
 cases b1
 case' false =>
  have l1:=dN hb1
  obtain rfl:i=k:=om
  refine sU<|Sy.exit<|Sy.then_exit<|Sy.then_exit<|Sy.in_exit<|Sy.then_<|sC<|sp J<|sp J<|sG<|Sy.ret ?_
  rw [List.take_of_length_le (by rw [B1]; exact Nat.le_refl _)] at hs
  exact Sy.retGM s.bl J (.inl (show _=_ by kernel_rfl)) (λ_ h=>by rw [List.append_nil] at h; exact h) hs.as
 have l1:=dY hb1
 obtain ⟨m,hm⟩:∃ m:Nat,m=k - 1 - i:=⟨_,rfl⟩
 obtain rfl:z=(m:Int):=om
 refine sT<|Sy.skip<|Sy.then_<|Sy.seq<|Sy.block<|sC<|sp J<|sp J<|sG<|Sy.seq<|sC<|sP (.int .i64 0)<|sG<|Sy.block<|Sy.loopT (Y:=Nat) m (λj q=>[(0,uZ (n:Int)),(1,.int .i64 (k:Int)),(5,s.v),(6,.int .i64 (m:Int)),(7,uZ (q:Int)),(8,.int .i64 (j:Int))]) (λ_ _=>s.bl++[]) (λj q=>q=n / 256 ^ j) n (by rw [Nat.pow_zero,Nat.div_one]) ac6 (λ_ h=>h) (λj q hj hq=>?_)
 dsimp only at hq ⊢
 have hq2:q<18446744073709551616:=by rw [hq]; exact Nat.lt_of_le_of_lt (Nat.div_le_self _ _) hn
 refine Sy.seq<|sC ?_
 obtain ⟨b2,hb2⟩:=xE (decide (j<m))
 refine sp J<|sp J<|sS (.bool b2) (qls J J J hb2)<|sG ?_
 cases b2
 case' true =>
  have l2:=dY hb2
  refine sT<|Sy.skip<|Sy.then_<|Sy.seq<|Sy.block<|Sy.region<|sp J<|sS (uZ ((q / 256:Nat):Int)) (Quiet.pure (AE .quo _ _ _ .u64 _ _ _ J J J (J9 _ _ _ _ _ dZ (by rw [show (q:Int).tdiv 256=((q / 256:Nat):Int) from rfl]; exact wrap_u64 om om))))<|sp J<|Sy.nil<|Sy.in_<|Sy.then_<|Sy.region<|sp J<|sS (iZ (j+1)) (qad J J J)<|sp J<|Sy.nil ?_
  exact Sy.againT (q / 256) l2 (by show q / 256=n / 256 ^ (j+1); rw [hq,Nat.div_div_eq_div_mul,Nat.pow_succ]) ac6 (λw h=>h)
 have l2:=dN hb2
 obtain rfl:j=m:=om
 obtain ⟨x,hx⟩:=xE (UInt8.ofNat (q%256))
 have hln:((nb k n).take i).length≤8:=by rw [List.length_take,B1]; omega
 refine sU<|Sy.exit<|Sy.then_exit<|Sy.then_exit<|Sy.in_exit<|Sy.then_<|Sy.region<|sp J<|sp J<|sS (uZ ((q%256:Nat):Int)) (Quiet.pure (AE .rem _ _ _ .u64 _ _ _ J J J (Ss _ _ _ _ _ dZ J)))<|sS (bv x) (Quiet.pure (λw=>by rw [hx]; exact E5 w _ _ _ _ om J J))<|Sy.make kR 5 #[bv x] (λg=>.slice (pA g) 1 1) kF (λg1=>?_)
 refine Sy.movT (pre:=[]) (T:=s.bl++[])<|Sy.appendR (pre:=[(g1,5,#[bv x])]) (T:=[]) kR 27 5 _ _ 1 1 Aw Cu.info_u8 J J J J dZ _ _ J hs kR [bv x] rfl (λu hu=>by rw [List.mem_singleton.1 hu]; rfl) 0 g1 5 kR kR (by rw [As]; omega) (by rw [As]; simp only [maxLen]; omega) (λr hr=>?_)
 refine sp J<|Sy.nil<|Sy.in_<|Sy.then_<|Sy.region<|sp J<|sS (.int .i64 ((j:Int) - 1)) (Quiet.pure (AE .sub _ _ _ .i64 _ _ _ J J J (Cf _ _ _ _ _ (BI om om))))<|sp J<|Sy.nil ?_
 have hr':BS r ((nb k n).take (i+1)):=by
  have e:byL ((nb k n).take (i+1))=byL ((nb k n).take i)++[[bv x]]:=by
   rw [NK k n i l1,FK,hx,hq,Og,hm]
   rfl
  show r.Is 5 1 _
  rw [e]
  exact hr
 exact Sy.againT (r,(j:Int) - 1) l1 ⟨hr',by show (j:Int) - 1=_; omega⟩ ac4 (λw h=>h.less (List.sublist_cons_self _ _))
theorem Db (w:World) (n:Nat) (hn:n<18446744073709551616):AL 117 #[uZ (n:Int)] w (BD w (ByN (Ap n))):=by
 refine Sy.enter (args:=[uZ (n:Int)]) Tryz.func117 J kL<|sC<|sP (.slice none 0 0)<|sG<|Sy.seq<|sC ?_
 obtain ⟨b1,hb1⟩:=xE (decide (n<253))
 refine sp J<|sS (.bool b1) (Quiet.pure (AE .lss _ _ _ .u64 _ _ _ J J J (DF _ _ _ _ _ (by rw [hb1]; exact decide_eq_decide.2 om))))<|sG ?_
 cases b1
 case' true =>
  have l1:=dY hb1
  obtain ⟨x,hx⟩:=xE (UInt8.ofNat n)
  refine sT<|sC<|sp J<|sS (bv x) (Quiet.pure (λw=>by rw [hx]; exact E5 w _ _ _ _ hn J J))<|Sy.make kR 5 #[bv x] (λg=>.slice (pA g) 1 1) kF (λg1=>?_)
  refine sp J<|sG<|Sy.ret<|Sy.then_ret ?_
  rw [show Ap n=[x] by unfold Ap; rw [if_pos l1,hx]]
  exact Sy.retGM [(g1,5,#[bv x])] rfl (.inl (show _=_ by kernel_rfl)) (λ_ h=>h) (BS.one g1 x).as
 have l1:=dN hb1
 refine sU<|Sy.skip<|sB<|sP (bv 253)<|sA<|sP (.int .i64 2)<|sG ?_
 obtain ⟨c1,hc1⟩:∃ c:UInt8×Nat,c=if 65536≤n then (254,4) else (253,2):=⟨_,rfl⟩
 obtain ⟨c2,hc2⟩:∃ c:UInt8×Nat,c=if 4294967296≤n then (255,8) else c1:=⟨_,rfl⟩
 have hv:Ap n=c2.1::nb c2.2 n:=by
  unfold Ap
  rw [if_neg l1,hc2,hc1]
  by_cases h1:n<65536
  ·rw [if_pos h1,if_neg (show ¬ 4294967296≤n by omega),if_neg (show ¬ 65536≤n by omega)]
  ·rw [if_neg h1]
   by_cases h2:n<4294967296
   ·rw [if_pos h2,if_neg (show ¬ 4294967296≤n by omega),if_pos (show 65536≤n by omega)]
   ·rw [if_neg h2,if_pos (show 4294967296≤n by omega)]
 have hc8:c2.2≤8:=by
  rw [hc2,hc1]
  split
  ·exact Nat.le_refl _
  ·split
   ·show 4≤8; omega
   ·show 2≤8; omega
 refine Sy.seq<|DN [(0,uZ (n:Int)),(3,bv c1.1),(4,iZ c1.2)] [] ?_ ?_
 ·refine sC ?_
  obtain ⟨b2,hb2⟩:=xE (decide (65536≤n))
  refine sp J<|sS (.bool b2) (Quiet.pure (AE .geq _ _ _ .u64 _ _ _ J J J (Dy _ _ _ _ _ (by rw [hb2]; exact decide_eq_decide.2 om))))<|sG ?_
  cases b2
  ·rw [if_neg (of_decide_eq_false hb2.symm)] at hc1
   rw [hc1]
   refine sU<|Sy.skip ?_
   exact A_ ac3 (λ_ h=>h)
  ·rw [if_pos (of_decide_eq_true hb2.symm)] at hc1
   rw [hc1]
   refine sT<|Sy.region<|sP (bv 254)<|sP (.int .i64 4)<|Sy.nil ?_
   exact A_ ac3 (λ_ h=>h)
 clear hc1
 refine Sy.then_<|Sy.seq<|DN [(0,uZ (n:Int)),(3,bv c2.1),(4,iZ c2.2)] [] ?_ ?_
 ·refine sC ?_
  obtain ⟨b2,hb2⟩:=xE (decide (4294967296≤n))
  refine sp J<|sS (.bool b2) (Quiet.pure (AE .geq _ _ _ .u64 _ _ _ J J J (Dy _ _ _ _ _ (by rw [hb2]; exact decide_eq_decide.2 om))))<|sG ?_
  cases b2
  ·rw [if_neg (of_decide_eq_false hb2.symm)] at hc2
   rw [hc2]
   refine sU<|Sy.skip ?_
   exact A_ ac3 (λ_ h=>h)
  ·rw [if_pos (of_decide_eq_true hb2.symm)] at hc2
   rw [hc2]
   refine sT<|Sy.region<|sP (bv 255)<|sP (.int .i64 8)<|Sy.nil ?_
   exact A_ ac3 (λ_ h=>h)
 clear hc2
 obtain ⟨x,k⟩:=c2
 dsimp only at hv hc8 ⊢
 rw [hv]
 refine Sy.then_<|sC<|sp J<|Sy.make kR 5 #[bv x] (λg=>.slice (pA g) 1 1) kF (λg1=>?_)
 refine sp J<|sA<|sp J<|sp J<|sp J<|Sy.callN kR 115 #[uZ (n:Int),.int .i64 (k:Int)] kF _ (λw' _=>Du w' n k hn hc8) (λu M hM=>?_)
 obtain ⟨A,m,cp,rfl,h2,h3,h4,h5⟩:=hM.byt
 rw [B1] at h2
 have hf:BytR (rdC (Base.of w) M) (.slice A m cp) (nb k n):=(hM.byt).le ID
 refine Sy.appendM (pre:=[]) (r:=⟨.slice (pA g1) 1 1,[(g1,5,#[bv x])]⟩) (T:=M) kR 27 5 _ _ 1 1 Aw Cu.info_u8 J J J J dZ _ _ J (BS.one g1 x) kR (D5 (nb k n)) (DO (nb k n)) A m cp (by rw [As,B1,h2]) h3 kR (λr=>BytR.from hf (λy hy=>List.mem_append_right [] (List.mem_append_right _ hy))) (by rw [As]; show (1+m)*1≤_; omega) (by rw [As]; show 1+m≤_; simp only [maxLen]; omega) (λr hr=>?_)
 have hr':BS r (x::nb k n):=hr
 refine sp J<|sA<|sp J<|sp J<|sG<|Sy.ret ?_
 exact Sy.retGM r.bl J (.inl (show _=_ by kernel_rfl)) (λ_ h=>h.less (List.sublist_append_left _ _)) hr'.as
def gv1 (b:Byt) (at_ e:Nat):Nat×Nat×Nat:=((BU b at_ e 1).1,(BU b at_ e 1).2.1,said (BU b at_ e 1).2.2)
def gv2 (b:Byt) (at_ e:Nat):Nat×Nat×Nat:=if (gv1 b at_ e).2.1=0∧253≤(gv1 b at_ e).2.2 then ((BU b (gv1 b at_ e).1 (gv1 b at_ e).2.1 (wide (gv1 b at_ e).2.2)).1,(BU b (gv1 b at_ e).1 (gv1 b at_ e).2.1 (wide (gv1 b at_ e).2.2)).2.1,said (BU b (gv1 b at_ e).1 (gv1 b at_ e).2.1 (wide (gv1 b at_ e).2.2)).2.2) else gv1 b at_ e
def gvN (b:Byt) (at_ e most:Nat):Nat×Nat×Nat:=if (gv2 b at_ e).2.1≠0 then (at_,(gv2 b at_ e).2.1,0) else if (Ap (gv2 b at_ e).2.2).length≠(gv2 b at_ e).1 - at_ then (at_,111,0) else if most<(gv2 b at_ e).2.2 then (at_,112,0) else gv2 b at_ e
theorem Jt (b:Byt) (at_ e n:Nat) (h:at_≤b.length):at_≤(BU b at_ e n).1∧(BU b at_ e n).1≤b.length:=by
 unfold BU
 split
 ·exact ⟨Nat.le_refl _,h⟩
 ·split
  ·exact ⟨Nat.le_refl _,h⟩
  ·exact ⟨Nat.le_add_right _ _,by show at_+n≤_; omega⟩
theorem OU (b:Byt) (at_ e n:Nat) (h:n≤8):said (BU b at_ e n).2.2<18446744073709551616:=by
 have h1:=Cm (BU b at_ e n).2.2
 have h2:=F8 b at_ e n
 have h3:256 ^ (BU b at_ e n).2.2.length≤256 ^ 8:=Nat.pow_le_pow_right dZ om
 exact Nat.lt_of_lt_of_le h1 h3
theorem Q6 (b:Byt) (at_ e:Nat):(gv1 b at_ e).2.2<256:=by
 have h1:=Cm (BU b at_ e 1).2.2
 have h2:=F8 b at_ e 1
 have h3:256 ^ (BU b at_ e 1).2.2.length≤256 ^ 1:=Nat.pow_le_pow_right dZ om
 exact Nat.lt_of_lt_of_le h1 h3
theorem Uh (b:Byt) (at_ e:Nat) (h:at_≤b.length):at_≤(gv2 b at_ e).1∧(gv2 b at_ e).1≤b.length∧(gv2 b at_ e).2.2<18446744073709551616:=by
 have h1:=Jt b at_ e 1 h
 unfold gv2
 split
 ·have h2:=Jt b (gv1 b at_ e).1 (gv1 b at_ e).2.1 (wide (gv1 b at_ e).2.2) h1.2
  exact ⟨Nat.le_trans h1.1 h2.1,h2.2,OU _ _ _ _ (EP _).1⟩
 ·exact ⟨h1.1,h1.2,Nat.lt_trans (Q6 b at_ e) dZ⟩
theorem HN (w:World) (sl:Value) (b:Byt) (at_ e most:Nat) (hat:at_≤b.length) (hm:most<18446744073709551616) (hl:b.length≤70368744177664) (hv:BytR (rdW w) sl b) :
  AL 126 #[rrV sl at_ e,uZ (most:Int),.bool false] w (Ai w (.tuple #[rrV sl (gvN b at_ e most).1 (gvN b at_ e most).2.1,uZ (((gvN b at_ e most).2.2:Nat):Int)])):=by
 have hv0:=hv
 obtain ⟨A,m,cp,rfl,h2,h3,h4,h5⟩:=hv
 have hlt:=Q6 b at_ e
 obtain ⟨f,hf⟩:=xE (gv1 b at_ e)
 have hf1:f.1=(BU b at_ e 1).1:=by rw [hf]; rfl
 have hf2:f.2.1=(BU b at_ e 1).2.1:=by rw [hf]; rfl
 have hf3:f.2.2=said (BU b at_ e 1).2.2:=by rw [hf]; rfl
 have hfa:=Jt b at_ e 1 hat
 obtain ⟨q1,q2,hq3⟩:=Uh b at_ e hat
 obtain ⟨q,hq⟩:=xE (gv2 b at_ e)
 have hqf:q=if f.2.1=0∧253≤f.2.2 then ((BU b f.1 f.2.1 (wide f.2.2)).1,(BU b f.1 f.2.1 (wide f.2.2)).2.1,said (BU b f.1 f.2.1 (wide f.2.2)).2.2) else f:=by rw [hq,hf]; rfl
 have hg:gvN b at_ e most=if q.2.1≠0 then (at_,q.2.1,0) else if (Ap q.2.2).length≠q.1 - at_ then (at_,111,0) else if most<q.2.2 then (at_,112,0) else q:=by rw [hq]; rfl
 rw [← hq] at q1 q2 hq3
 rw [← hf] at hlt
 rw [← hf1] at hfa
 rw [hg]
 clear hq hf hg
 refine Sy.enter (args:=[rrV (.slice A m cp) at_ e,uZ (most:Int),.bool false]) Tryz.func126 J kL<|sC<|sM 164 (rrC (.slice A m cp) at_ e) (λg3=>?_)
 refine sM 164 (rrC (.slice none 0 0) 0 0) (λg6=>?_)
 refine sP (uZ 0)<|sA<|sS (rrV (.slice A m cp) at_ e) (qk 0 0 3 J J Bd)<|sS (.tuple #[rrV (.slice A m cp) f.1 f.2.1,uZ ((f.2.2:Nat):Int)]) (qg (λw' hw=>by rw [hf1,hf2,hf3]; exact K6 w' (.slice A m cp) b at_ e 1 hat dZ hl (hv0.at hw)))<|sp J<|sp J<|sp J<|sM 164 (rrC (.slice none 0 0) 0 0) (λg8=>?_)
 refine sw 2 J (rrC (.slice A m cp) f.1 f.2.1) (wA J)<|sp J<|sA<|sp J<|sp J<|sG<|Sy.seq<|DN [(1,uZ (most:Int)),(2,.bool false),(3,ptr g3),(6,ptr g6),(8,ptr g8),(10,uZ ((q.2.2:Nat):Int))] [(g3,164,rrC (.slice A m cp) at_ e),(g6,164,rrC (.slice none 0 0) 0 0),(g8,164,rrC (.slice A m cp) q.1 q.2.1)] ?_ ?_
 ·refine sC ?_
  obtain ⟨b1,hb1⟩:=xE (decide (f.2.1=0))
  refine sP (pT g8 2)<|sS (iZ f.2.1) (qc 2 2 J J En)<|sS (.bool b1) (qeq J J J hb1)<|sp J ?_
  cases b1
  case' false =>
   have l1:=dN hb1
   rw [if_neg (λh=>l1 h.1)] at hqf
   refine sN<|sN<|sP (.bool false)<|sG<|sU<|Sy.skip ?_
   rw [hqf]
   exact A_ ac6 (λ_ h=>h)
  have l1:=dY hb1
  obtain ⟨b2,hb2⟩:=xE (decide (253≤f.2.2))
  refine sp J<|sS (.bool b2) (Quiet.pure (AE .geq _ _ _ .u64 _ _ _ J J J (Dy _ _ _ _ _ (by rw [hb2]; exact decide_eq_decide.2 om))))<|sP (.bool b2)<|sG ?_
  cases b2
  case' false =>
   have l2:=dN hb2
   rw [if_neg (λh=>l2 h.2)] at hqf
   refine sU<|Sy.skip ?_
   rw [hqf]
   exact A_ ac6 (λ_ h=>h)
  have l2:=dY hb2
  rw [if_pos ⟨l1,l2⟩] at hqf
  have hqa:q.1=(BU b f.1 f.2.1 (wide f.2.2)).1:=by rw [hqf]
  have hqb:q.2.1=(BU b f.1 f.2.1 (wide f.2.2)).2.1:=by rw [hqf]
  have hqc:q.2.2=said (BU b f.1 f.2.1 (wide f.2.2)).2.2:=by rw [hqf]
  clear hqf
  obtain ⟨k1,hk1⟩:=xE (if f.2.2=254 then 4 else 2)
  obtain ⟨k2,hk2⟩:=xE (if f.2.2=255 then 8 else k1)
  have hk:wide f.2.2=k2:=by
   rw [hk2,hk1]
   unfold wide
   repeat' split
   all_goals omega
  have hk8:=(EP f.2.2).1
  rw [hk] at hqa hqb hqc hk8
  clear hk
  refine sT<|sC<|sP (.int .i64 2)<|sG<|Sy.seq<|DN [(1,uZ (most:Int)),(2,.bool false),(3,ptr g3),(6,ptr g6),(8,ptr g8),(9,uZ ((f.2.2:Nat):Int)),(11,.int .i64 (k1:Int))] [(g3,164,rrC (.slice A m cp) at_ e),(g6,164,rrC (.slice none 0 0) 0 0),(g8,164,rrC (.slice A m cp) f.1 f.2.1)] ?_ ?_
  ·refine sC ?_
   obtain ⟨b3,hb3⟩:=xE (decide (f.2.2=254))
   refine sp J<|sS (.bool b3) (Quiet.pure (AE .eql _ _ _ .u64 _ _ _ J J J (Aa _ _ _ _ _ (by rw [hb3]; exact decide_eq_decide.2 om))))<|sG ?_
   cases b3
   ·rw [if_neg (of_decide_eq_false hb3.symm)] at hk1
    subst hk1
    refine sU<|Sy.skip ?_
    exact A_ ac7 (λ_ h=>h)
   ·rw [if_pos (of_decide_eq_true hb3.symm)] at hk1
    subst hk1
    refine sT<|Sy.region<|sP (.int .i64 4)<|Sy.nil ?_
    exact A_ ac7 (λ_ h=>h)
  clear hk1
  refine Sy.then_<|Sy.seq<|DN [(1,uZ (most:Int)),(2,.bool false),(3,ptr g3),(6,ptr g6),(8,ptr g8),(9,uZ ((f.2.2:Nat):Int)),(11,.int .i64 (k2:Int))] [(g3,164,rrC (.slice A m cp) at_ e),(g6,164,rrC (.slice none 0 0) 0 0),(g8,164,rrC (.slice A m cp) f.1 f.2.1)] ?_ ?_
  ·refine sC ?_
   obtain ⟨b3,hb3⟩:=xE (decide (f.2.2=255))
   refine sp J<|sS (.bool b3) (Quiet.pure (AE .eql _ _ _ .u64 _ _ _ J J J (Aa _ _ _ _ _ (by rw [hb3]; exact decide_eq_decide.2 om))))<|sG ?_
   cases b3
   ·rw [if_neg (of_decide_eq_false hb3.symm)] at hk2
    subst hk2
    refine sU<|Sy.skip ?_
    exact A_ ac7 (λ_ h=>h)
   ·rw [if_pos (of_decide_eq_true hb3.symm)] at hk2
    subst hk2
    refine sT<|Sy.region<|sP (.int .i64 8)<|Sy.nil ?_
    exact A_ ac7 (λ_ h=>h)
  clear hk2
  refine Sy.then_<|Sy.region<|sS (rrV (.slice A m cp) f.1 f.2.1) (qk 2 0 3 J J Bd)<|sp J<|sS (.tuple #[rrV (.slice A m cp) q.1 q.2.1,uZ ((q.2.2:Nat):Int)]) (qg (λw' hw=>by rw [hqa,hqb,hqc]; exact K6 w' (.slice A m cp) b f.1 f.2.1 k2 hfa.2 hk8 hl (hv0.at hw)))<|sp J<|sp J<|sp J<|sw 2 J (rrC (.slice A m cp) q.1 q.2.1) (wA J)<|sp J<|Sy.nil ?_
  exact A_ ac6 (λ_ h=>h)
 clear hqf hf1 hf2 hf3 hfa hlt
 refine Sy.then_<|Sy.seq<|sC ?_
 obtain ⟨b1,hb1⟩:=xE (decide (q.2.1≠0))
 refine sP (pT g8 2)<|sS (iZ q.2.1) (qc 2 2 J J En)<|sS (.bool b1) (qne J J J hb1)<|sG ?_
 cases b1
 case' true =>
  rw [if_pos (of_decide_eq_true hb1.symm)]
  refine sT<|sC<|sP (pT g8 2)<|sS (iZ q.2.1) (qc 2 2 J J En)<|sP (pT g3 2)<|sw 0 J (rrC (.slice A m cp) at_ q.2.1) (wO 2 28 (iZ q.2.1) rfl)<|sA<|sS (rrV (.slice A m cp) at_ q.2.1) (qk 0 0 3 J J Bd)<|sw 1 J (rrC (.slice A m cp) at_ q.2.1) (wA J)<|sP (uZ 0)<|sG<|Sy.ret<|Sy.then_ret ?_
  exact Sy.ret2 J (.inl (Sy.Res.cell (ty':=164) g6 1 (rrC (.slice A m cp) at_ q.2.1) _ kZ J Bd J kZ J)) (.inl (show _=_ by kernel_rfl))
 have l1:=of_decide_eq_false hb1.symm
 rw [if_neg l1]
 refine sU<|Sy.skip<|Sy.then_<|Sy.seq<|Sy.seq ?_
 obtain ⟨b3,hb3⟩:=xE (decide ((Ap q.2.2).length≠q.1 - at_))
 refine DN [(1,uZ (most:Int)),(2,.bool false),(3,ptr g3),(6,ptr g6),(8,ptr g8),(10,uZ ((q.2.2:Nat):Int)),(50,.bool b3)] [(g3,164,rrC (.slice A m cp) at_ e),(g6,164,rrC (.slice none 0 0) 0 0),(g8,164,rrC (.slice A m cp) q.1 q.2.1)] ?_ ?_
 ·refine Sy.regionD (λj=>j == 1 || j == 4 || j == 6) kR ?_
  refine sa 0 J J<|sb 3 J (pT g8 1)<|sb 5 J (pT g3 1)<|Sy.anyOf [1,4,6] kZ dZ (Sy.each3 ?_ ?_ ?_)
  ·refine Sy.oneCallN J kZ 117 #[uZ ((q.2.2:Nat):Int)] kF _ (λw' _=>Db w' q.2.2 hq3) (λu M hM=>?_)
   obtain ⟨A1,m1,c1,rfl,k2,_⟩:=hM.byt
   refine sb 2 J (.int .i64 (m1:Int))<|Sy.anyOf [4,6] kZ dZ (Sy.each2 ?_ ?_)
   ·refine Sy.oneQuiet J kZ (iZ q.1) (qc 2 1 J J uy3) ?_
    refine Sy.anyOf [6] kZ dZ (Sy.each1 ?_)
    ·refine Sy.oneQuiet J kZ (.int .i64 (at_:Int)) (qc 0 1 J J uy3) ?_
     refine sv 7 J (iZ (q.1 - at_)) (AE .sub _ _ _ .i64 _ _ _ J J J (Cf _ _ _ _ _ ((BI om om).trans om)))<|sv 8 J (.bool b3) (AE .neq _ _ _ .i64 _ _ _ J J J (Dw _ _ _ _ _ (by rw [hb3]; exact decide_eq_decide.2 om)))<|sE ?_
     exact A_ ac7 (λ_ h=>h.less (List.sublist_append_left _ _))
   ·refine Sy.oneQuiet J kZ (.int .i64 (at_:Int)) (qc 0 1 J J uy3) ?_
    refine Sy.anyOf [4] kZ dZ (Sy.each1 ?_)
    ·refine Sy.oneQuiet J kZ (iZ q.1) (qc 2 1 J J uy3) ?_
     refine sv 7 J (iZ (q.1 - at_)) (AE .sub _ _ _ .i64 _ _ _ J J J (Cf _ _ _ _ _ ((BI om om).trans om)))<|sv 8 J (.bool b3) (AE .neq _ _ _ .i64 _ _ _ J J J (Dw _ _ _ _ _ (by rw [hb3]; exact decide_eq_decide.2 om)))<|sE ?_
     exact A_ ac7 (λ_ h=>h.less (List.sublist_append_left _ _))
  ·refine Sy.oneQuiet J kZ (iZ q.1) (qc 2 1 J J uy3) ?_
   refine Sy.anyOf [1,6] kZ dZ (Sy.each2 ?_ ?_)
   ·refine Sy.oneCallN J kZ 117 #[uZ ((q.2.2:Nat):Int)] kF _ (λw' _=>Db w' q.2.2 hq3) (λu M hM=>?_)
    obtain ⟨A1,m1,c1,rfl,k2,_⟩:=hM.byt
    refine sb 2 J (.int .i64 (m1:Int))<|Sy.anyOf [6] kZ dZ (Sy.each1 ?_)
    ·refine Sy.oneQuiet J kZ (.int .i64 (at_:Int)) (qc 0 1 J J uy3) ?_
     refine sv 7 J (iZ (q.1 - at_)) (AE .sub _ _ _ .i64 _ _ _ J J J (Cf _ _ _ _ _ ((BI om om).trans om)))<|sv 8 J (.bool b3) (AE .neq _ _ _ .i64 _ _ _ J J J (Dw _ _ _ _ _ (by rw [hb3]; exact decide_eq_decide.2 om)))<|sE ?_
     exact A_ ac7 (λ_ h=>h.less (List.sublist_append_left _ _))
   ·refine Sy.oneQuiet J kZ (.int .i64 (at_:Int)) (qc 0 1 J J uy3) ?_
    refine sv 7 J (iZ (q.1 - at_)) (AE .sub _ _ _ .i64 _ _ _ J J J (Cf _ _ _ _ _ ((BI om om).trans om)))<|Sy.anyOf [1] kZ dZ (Sy.each1 ?_)
    ·refine Sy.oneCallN J kZ 117 #[uZ ((q.2.2:Nat):Int)] kF _ (λw' _=>Db w' q.2.2 hq3) (λu M hM=>?_)
     obtain ⟨A1,m1,c1,rfl,k2,_⟩:=hM.byt
     refine sb 2 J (.int .i64 (m1:Int))<|sv 8 J (.bool b3) (AE .neq _ _ _ .i64 _ _ _ J J J (Dw _ _ _ _ _ (by rw [hb3]; exact decide_eq_decide.2 om)))<|sE ?_
     exact A_ ac7 (λ_ h=>h.less (List.sublist_append_left _ _))
  ·refine Sy.oneQuiet J kZ (.int .i64 (at_:Int)) (qc 0 1 J J uy3) ?_
   refine Sy.anyOf [1,4] kZ dZ (Sy.each2 ?_ ?_)
   ·refine Sy.oneCallN J kZ 117 #[uZ ((q.2.2:Nat):Int)] kF _ (λw' _=>Db w' q.2.2 hq3) (λu M hM=>?_)
    obtain ⟨A1,m1,c1,rfl,k2,_⟩:=hM.byt
    refine sb 2 J (.int .i64 (m1:Int))<|Sy.anyOf [4] kZ dZ (Sy.each1 ?_)
    ·refine Sy.oneQuiet J kZ (iZ q.1) (qc 2 1 J J uy3) ?_
     refine sv 7 J (iZ (q.1 - at_)) (AE .sub _ _ _ .i64 _ _ _ J J J (Cf _ _ _ _ _ ((BI om om).trans om)))<|sv 8 J (.bool b3) (AE .neq _ _ _ .i64 _ _ _ J J J (Dw _ _ _ _ _ (by rw [hb3]; exact decide_eq_decide.2 om)))<|sE ?_
     exact A_ ac7 (λ_ h=>h.less (List.sublist_append_left _ _))
   ·refine Sy.oneQuiet J kZ (iZ q.1) (qc 2 1 J J uy3) ?_
    refine sv 7 J (iZ (q.1 - at_)) (AE .sub _ _ _ .i64 _ _ _ J J J (Cf _ _ _ _ _ ((BI om om).trans om)))<|Sy.anyOf [1] kZ dZ (Sy.each1 ?_)
    ·refine Sy.oneCallN J kZ 117 #[uZ ((q.2.2:Nat):Int)] kF _ (λw' _=>Db w' q.2.2 hq3) (λu M hM=>?_)
     obtain ⟨A1,m1,c1,rfl,k2,_⟩:=hM.byt
     refine sb 2 J (.int .i64 (m1:Int))<|sv 8 J (.bool b3) (AE .neq _ _ _ .i64 _ _ _ J J J (Dw _ _ _ _ _ (by rw [hb3]; exact decide_eq_decide.2 om)))<|sE ?_
     exact A_ ac7 (λ_ h=>h.less (List.sublist_append_left _ _))
 refine Sy.then_ ?_
 cases b3
 case' true =>
  rw [if_pos (of_decide_eq_true hb3.symm)]
  refine sT<|sC<|sP (pT g3 2)<|sw 0 J (rrC (.slice A m cp) at_ 111) (wO 2 28 (.int .i64 111) rfl)<|sA<|sS (rrV (.slice A m cp) at_ 111) (qk 0 0 3 J J Bd)<|sw 1 J (rrC (.slice A m cp) at_ 111) (wA J)<|sP (uZ 0)<|sG<|Sy.ret<|Sy.then_ret ?_
  exact Sy.ret2 J (.inl (Sy.Res.cell (ty':=164) g6 1 (rrC (.slice A m cp) at_ 111) _ kZ J Bd J kZ J)) (.inl (show _=_ by kernel_rfl))
 rw [if_neg (of_decide_eq_false hb3.symm)]
 refine sU<|Sy.skip<|Sy.then_<|Sy.seq<|sC ?_
 obtain ⟨b4,hb4⟩:=xE (decide (most<q.2.2))
 refine sp J<|sp J<|sp J<|sp J<|sS (.bool b4) (Quiet.pure (AE .gtr _ _ _ .u64 _ _ _ J J J (Dx _ _ _ _ _ (by rw [hb4]; exact decide_eq_decide.2 om))))<|sP (.bool b4)<|sG ?_
 cases b4
 case' true =>
  rw [if_pos (of_decide_eq_true hb4.symm)]
  refine sT<|sC<|sP (pT g3 2)<|sw 0 J (rrC (.slice A m cp) at_ 112) (wO 2 28 (.int .i64 112) rfl)<|sA<|sS (rrV (.slice A m cp) at_ 112) (qk 0 0 3 J J Bd)<|sw 1 J (rrC (.slice A m cp) at_ 112) (wA J)<|sP (uZ 0)<|sG<|Sy.ret<|Sy.then_ret ?_
  exact Sy.ret2 J (.inl (Sy.Res.cell (ty':=164) g6 1 (rrC (.slice A m cp) at_ 112) _ kZ J Bd J kZ J)) (.inl (show _=_ by kernel_rfl))
 rw [if_neg (of_decide_eq_false hb4.symm)]
 refine sU<|Sy.skip<|sB<|sS (rrV (.slice A m cp) q.1 q.2.1) (qk 2 0 3 J J Bd)<|sp J<|sw 1 J (rrC (.slice A m cp) q.1 q.2.1) (wA J)<|sp J<|sG<|Sy.ret ?_
 exact Sy.ret2 J (.inl (Sy.Res.cell (ty':=164) g6 1 (rrC (.slice A m cp) q.1 q.2.1) _ kZ J Bd J kZ J)) (.inl (show _=_ by kernel_rfl))
theorem Py (b:Byt) (at_ k:Nat) (h:at_≤b.length):(BU b at_ 0 k).1=at_+(fxN (b.drop at_) k).2.1∧(BU b at_ 0 k).2.1=(fxN (b.drop at_) k).2.2∧said (BU b at_ 0 k).2.2=(fxN (b.drop at_) k).1:=by
 unfold BU fxN
 rw [if_neg (λh=>h J),List.length_drop]
 by_cases h:b.length - at_<k
 ·rw [if_pos h,if_pos h]; exact ⟨rfl,rfl,rfl⟩
 ·rw [if_neg h,if_neg h]; exact ⟨rfl,rfl,rfl⟩
theorem Ui {b:Byt} {k:Nat} (h:(fxN b k).2.2=0):(fxN b k).2.1=k:=by
 unfold fxN at h ⊢
 split at h
 ·cases h
 ·rename_i hl; rw [if_neg hl]
theorem NY {b:Byt} {k:Nat} (h:(fxN b k).2.2≠0):(fxN b k).1=0∧(fxN b k).2.1=0:=by
 unfold fxN at h ⊢
 split at h
 ·rename_i hl; rw [if_pos hl]; exact ⟨rfl,rfl⟩
 ·exact (h J).elim
theorem Q5 (b:Byt) (at_ most:Nat) (h:at_≤b.length):gvN b at_ 0 most=(at_+(vrN (b.drop at_) most).2.1,(vrN (b.drop at_) most).2.2,(vrN (b.drop at_) most).1):=by
 have r1:=Py b at_ 1 h
 cases hl:b.drop at_ with
 | nil =>
  rw [hl] at r1
  have e1:gv1 b at_ 0=(at_,110,0):=by
   unfold gv1
   rw [r1.1,r1.2.1,r1.2.2]; rfl
  have e2:gv2 b at_ 0=(at_,110,0):=by unfold gv2; rw [e1]; exact if_neg (λh=>by cases h.1)
  unfold gvN
  rw [e2,if_pos (show (110:Nat)≠0 by decide)]
  rfl
 | cons u l =>
  have hu:=u.toNat_lt
  rw [hl,Fu (rfl:u::l=u::l)] at r1
  have e1:gv1 b at_ 0=(at_+1,0,u.toNat):=by
   unfold gv1
   rw [r1.1,r1.2.1,r1.2.2]
  by_cases hc:253≤u.toNat
  ·have hat1:at_+1≤b.length:=by
    have:=congrArg List.length hl
    rw [List.length_drop,List.length_cons] at this; omega
   have hd:b.drop (at_+1)=l:=by rw [← List.drop_drop,hl]; rfl
   have r2:=Py b (at_+1) (wide u.toNat) hat1
   rw [hd] at r2
   have hg:vrG (u::l)=if (fxN l (wide u.toNat)).2.2=0 then (if (fxN l (wide u.toNat)).1<CJ u.toNat then (0,0,111) else ((fxN l (wide u.toNat)).1,1+wide u.toNat,0)) else (0,0,(fxN l (wide u.toNat)).2.2):=by
    unfold vrG
    rw [Fu (rfl:u::l=u::l),if_pos (show 253≤(u.toNat,1,0).1 from hc)]
    rfl
   have hfl:=Dz l (wide u.toNat) (EP _).1
   have hfn:(fxN l (wide u.toNat)).1<256 ^ wide u.toNat:=by
    unfold fxN
    split
    ·exact Nat.pow_pos dZ
    ·have h1:=Cm (l.take (wide u.toNat))
     have h2:256 ^ (l.take (wide u.toNat)).length≤256 ^ wide u.toNat:=Nat.pow_le_pow_right dZ (by rw [List.length_take]; omega)
     exact Nat.lt_of_lt_of_le h1 h2
   have hz:=@NY l (wide u.toNat)
   have hln:=@Ui l (wide u.toNat)
   have hw:=N9 hu hc hfn
   have e2:gv2 b at_ 0=(at_+1+(fxN l (wide u.toNat)).2.1,(fxN l (wide u.toNat)).2.2,(fxN l (wide u.toNat)).1):=by
    unfold gv2
    rw [e1,if_pos ⟨rfl,hc⟩,r2.1,r2.2.1,r2.2.2]
   obtain ⟨f,hf⟩:=xE (fxN l (wide u.toNat))
   obtain ⟨wd,hwd⟩:=xE (wide u.toNat)
   rw [← hwd] at hf
   rw [← hwd, ← hf] at e2 hg hz hln hw
   unfold gvN vrN
   rw [e2,hg]
   clear hg e2 r2 e1 r1
   by_cases h1:f.2.2=0
   ·rw [if_pos h1,if_neg (λh=>h h1)]
    have hk:=hln h1
    by_cases h2:f.1<CJ u.toNat
    ·rw [if_pos h2]
     dsimp only
     rw [if_pos (show (Ap f.1).length≠at_+1+f.2.1 - at_ by intro e; exact absurd (hw.1 om) om),if_neg (show ¬ ((111:Nat)=0∧most<0) from λh=>by cases h.1)]
     rfl
    ·rw [if_neg h2]
     dsimp only
     rw [if_neg (show ¬ (Ap f.1).length≠at_+1+f.2.1 - at_ by intro e; exact e (by have:=hw.2 (by omega); omega))]
     by_cases h3:most<f.1
     ·rw [if_pos h3,if_pos (show (0:Nat)=0∧most<f.1 from ⟨rfl,h3⟩)]; rfl
     ·rw [if_neg h3,if_neg (show ¬ ((0:Nat)=0∧most<f.1) from λh=>h3 h.2)]
      refine Prod.ext ?_ (Prod.ext h1 J)
      show at_+1+f.2.1=at_+(1+wd); omega
   ·rw [if_neg h1,if_pos h1,if_neg (λh=>h1 h.1)]
    rfl
  ·have e2:gv2 b at_ 0=(at_+1,0,u.toNat):=by unfold gv2; rw [e1]; exact if_neg (λh=>hc h.2)
   have hg:vrG (u::l)=(u.toNat,1,0):=by
    unfold vrG
    rw [Fu (rfl:u::l=u::l),if_neg (show ¬ 253≤(u.toNat,1,0).1 from hc)]
   have hv:(Ap u.toNat).length=1:=by unfold Ap; rw [if_pos om]; rfl
   unfold gvN vrN
   rw [e2,hg,if_neg (λh=>h J),if_neg (show ¬ (Ap u.toNat).length≠at_+1 - at_ by intro e; exact e om)]
   by_cases h3:most<u.toNat
   ·rw [if_pos h3,if_pos ⟨rfl,h3⟩]; rfl
   ·rw [if_neg h3,if_neg (λh=>h3 h.2)]
theorem S0 (b:Byt) (at_ e most:Nat) (he:e≠0):gvN b at_ e most=(at_,e,0):=by
 have e0:BU b at_ e 1=(at_,e,[]):=if_pos he
 have e1:gv1 b at_ e=(at_,e,0):=by unfold gv1; rw [e0]; rfl
 have e2:gv2 b at_ e=(at_,e,0):=by unfold gv2; rw [e1]; exact if_neg (λh=>he h.1)
 unfold gvN
 rw [e2,if_pos he]
theorem Gy (b:Byt) (at_ e most:Nat) (h:at_≤b.length) (he:e≤200):After (Fj most) ⟨b.drop at_,e⟩ (gvN b at_ e most).2.2 ⟨b.drop (gvN b at_ e most).1,(gvN b at_ e most).2.1⟩∧(gvN b at_ e most).1≤b.length∧(gvN b at_ e most).2.1≤200∧(gvN b at_ e most).2.2≤most:=by
 by_cases h0:e=0
 ·subst h0
  rw [Q5 b at_ most h]
  have hy:=@JV (b.drop at_) most
  have hn:=@PE (b.drop at_) most
  have hf:=Hh (b.drop at_) most
  obtain ⟨f,hff⟩:=xE (vrN (b.drop at_) most)
  have hz:f.2.2≠0→f.1=0∧f.2.1=0:=by
   rw [hff]
   have q:=Hi (b.drop at_)
   unfold vrN
   intro h1
   split at h1
   ·rename_i hc; rw [if_pos hc]; exact ⟨rfl,rfl⟩
   ·rename_i hc
    rw [if_neg hc]
    refine ⟨Hv h1,?_⟩
    have e3:=Q5 b at_ most h
    unfold vrG at h1 ⊢
    split at h1
    ·rename_i h2
     rw [if_pos h2]
     unfold lgN at h1 ⊢
     split at h1
     ·rename_i h3
      split at h1
      ·rename_i h4; rw [if_pos h3,if_pos h4]
      ·exact (h1 J).elim
     ·rename_i h3; rw [if_neg h3]
    ·rename_i h2; rw [if_neg h2]; exact (NY h1).2
  rw [← hff] at hy hn hf ⊢
  dsimp only
  by_cases h1:f.2.2=0
  ·obtain ⟨q1,q2,q3⟩:=hy h1
   rw [List.length_drop] at q2
   refine ⟨⟨λh=>(h J).elim,λy r _ hp=>?_,λ_ hp=>?_⟩,by omega,by omega,q3⟩
   ·rw [q1] at hp
    cases hp
    refine ⟨rfl,?_⟩
    rw [List.drop_drop,h1]
   ·rw [q1] at hp; cases hp
  ·have q1:=hn h1
   obtain ⟨z1,z2⟩:=hz h1
   refine ⟨⟨λh=>(h J).elim,λy r _ hp=>?_,λ_ _=>h1⟩,by omega,hf.2.2,by omega⟩
   rw [q1] at hp; cases hp
 ·rw [S0 b at_ e most h0]
  exact ⟨⟨λ_=>h0,λ_ _ h1 _=>(h0 h1).elim,λh1 _=>(h0 h1).elim⟩,h,he,Nat.zero_le _⟩
def Oa (x:Byt) (n:Nat):Byt:=if x.length<n then List.replicate n 0 else x
theorem QD (b:Byt) (at_ e n:Nat):(Oa (BU b at_ e n).2.2 n).length=n:=by
 have:=F8 b at_ e n
 unfold Oa
 split
 ·exact List.length_replicate
 ·omega
theorem Lm (b:Byt) (at_ e n:Nat) (h:at_≤b.length) (he:e≤200):After (An n) ⟨b.drop at_,e⟩ (Oa (BU b at_ e n).2.2 n) ⟨b.drop (BU b at_ e n).1,(BU b at_ e n).2.1⟩∧(BU b at_ e n).1≤b.length∧(BU b at_ e n).2.1≤200:=by
 unfold BU An
 by_cases h0:e≠0
 ·rw [if_pos h0]
  exact ⟨⟨λ_=>h0,λ_ _ h1 _=>(h0 h1).elim,λh1 _=>(h0 h1).elim⟩,h,he⟩
 ·rw [if_neg h0]
  obtain rfl:e=0:=Decidable.of_not_not h0
  by_cases h1:b.length - at_<n
  ·rw [if_pos h1]
   refine ⟨⟨λ_=>(show (110:Nat)≠0 by decide),λy r _ hp=>?_,λ_ _=>(show (110:Nat)≠0 by decide)⟩,h,by show (110:Nat)≤200; omega⟩
   rw [if_neg (by show ¬ n≤(b.drop at_).length; rw [List.length_drop]; omega)] at hp
   cases hp
  ·rw [if_neg h1]
   refine ⟨⟨λh=>(h J).elim,λy r _ hp=>?_,λ_ hp=>?_⟩,by show at_+n≤_; omega,Nat.zero_le _⟩
   ·rw [if_pos (by show n≤(b.drop at_).length; rw [List.length_drop]; omega)] at hp
    cases hp
    refine ⟨?_,by rw [List.drop_drop]⟩
    unfold Oa
    rw [if_neg (by rw [List.length_take,List.length_drop]; omega)]
   ·rw [if_pos (by show n≤(b.drop at_).length; rw [List.length_drop]; omega)] at hp
    cases hp
abbrev RB (gr:Nat) (sl:Value) (at_ e:Nat) (R:AA):AA:=(gr,166,rrC sl at_ e)::R
def Rfd {α:Type} (p:Ps α) (val:α→Value→AA→Prop) (gr:Nat) (sl:Value) (b:Byt) (R:AA) (at_ e:Nat) (v:Value) (M:AA):Prop :=
 ∃ x a2 e2 N,After p ⟨b.drop at_,e⟩ x ⟨b.drop a2,e2⟩∧val x v N∧a2≤b.length∧e2≤200∧M=RB gr sl a2 e2 (R++N)
theorem PA (g n:Nat) (hn:n≤70368744177664):BS ⟨.slice (pA g) n n,[(g,5,(D9 (λ_=>[Value.int .u8 0]) n).toArray)]⟩ (List.replicate n 0):=by
 have e:(byL (List.replicate n (0:UInt8))).flatten=D9 (λ_=>[Value.int .u8 0]) n:=by
  rw [Io,List.map_replicate]
  induction n with
  | zero=>rfl
  | succ n ih=>rw [List.replicate_succ',EK,ih om]; rfl
 refine ⟨D5 _,DO _,.inr ⟨g,n,[],?_,?_,?_,?_⟩⟩
 ·rw [As,List.length_replicate,e,List.append_nil]
 ·rw [As,List.length_replicate]; exact Nat.zero_add _
 ·rw [As,List.length_replicate]; exact Nat.le_refl _
 ·simp only [maxLen]; omega
theorem Dk (w0:Base) (gr:Nat) (sl:Value) (b:Byt) (at_ e n:Nat) (R:AA) (hat:at_≤b.length) (he:e≤200) (hn:n≤1000000) (hl:b.length≤70368744177664) (hv:BytR (rdW w0.world) sl b) (w:World) (hw:St w0 w (RB gr sl at_ e R)) :
  AL 86 #[ptr gr,.int .i64 (n:Int)] w (AQ w0 (Rfd (An n) (λx v N=>ByN x v N∧x.length=n) gr sl b R at_ e)):=by
 obtain ⟨q1,q2,q3⟩:=Lm b at_ e n hat he
 have q4:=QD b at_ e n
 have hv0:=hv
 obtain ⟨A,m,cp,rfl,h2,h3,h4,h5⟩:=hv
 obtain ⟨f,hf⟩:=xE (BU b at_ e n)
 rw [← hf] at q1 q2 q3 q4
 refine Sy.enterT (args:=[ptr gr,.int .i64 (n:Int)]) hw Tryz.func86 J kL<|sC<|sP (.slice none 0 0)<|sA<|sp J<|sp J<|sP (pT gr 0)<|sS (rrV (.slice A m cp) at_ e) (qk 0 0 3 J J Bd)<|sp J<|Sy.callN kR 149 #[rrV (.slice A m cp) at_ e,.int .i64 (n:Int)] kF _ (λw' hw=>IE w' (.slice A m cp) b at_ e n hat om hl (hv0.le (λg o u hu=>Ad (w0:=w0.inn) (R:=[]) hw (λ_ h=>by cases h) g o u (.inl hu)))) (λu M hM=>?_)
 rw [← hf] at hM
 obtain ⟨u,rfl,hu⟩:=hM
 have hub:=hu.byt
 obtain ⟨A2,n2,c2,rfl,k2,k3,k4,k5⟩:=hub
 refine sp J<|sp J<|sp J<|sM 164 (rrC (.slice none 0 0) 0 0) (λg5=>?_)
 refine Sy.movT (pre:=[(gr,166,rrC (.slice A m cp) at_ e)]) (T:=R++M)<|sw 1 J (rrC (.slice A m cp) f.1 f.2.1) (wA J)<|sp J<|sA<|sp J<|sS (rrV (.slice A m cp) f.1 f.2.1) (qk 1 0 3 J J Bd)<|sp J<|sP (pT gr 0)<|sw 0 J (rrC (.slice A m cp) f.1 f.2.1) (wA J)<|sG<|Sy.seq<|sC ?_
 obtain ⟨b1,hb1⟩:=xE (decide (n2<n))
 refine sp J<|sP (.int .i64 (n2:Int))<|sp J<|sS (.bool b1) (qls J J J hb1)<|sG ?_
 cases b1
 case' false =>
  have l1:=dN hb1
  have ep:Oa f.2.2 n=f.2.2:=if_neg om
  rw [ep] at q1 q4
  refine sU<|Sy.skip<|sB<|sp J<|sp J<|sG<|Sy.ret ?_
  exact Sy.retT1 (RB gr (.slice A m cp) f.1 f.2.1 (R++M)) J (.inl (show _=_ by kernel_rfl)) (λ_ h=>NP h) ⟨_,_,_,M,q1,⟨hu,q4⟩,q2,q3,rfl⟩
 have l1:=dY hb1
 have ep:Oa f.2.2 n=List.replicate n 0:=if_pos om
 rw [ep] at q1 q4
 refine sT<|Sy.region<|sp J<|Sy.make kR 5 (D9 (λ_=>[Value.int .u8 0]) n).toArray (λg=>.slice (pA g) n n) (Sy.Makes.slice 27 5 _ _ 1 1 _ _ .i64 .i64 n _ J J J Aw Cu.info_u8 J J dZ J J J om om) (λgz=>?_)
 refine sp J<|Sy.nil<|sB<|sp J<|sp J<|sG<|Sy.ret ?_
 exact Sy.retT1 (RB gr (.slice A m cp) f.1 f.2.1 (R++[(gz,5,(D9 (λ_=>[Value.int .u8 0]) n).toArray)])) J (.inl (show _=_ by kernel_rfl)) (λ_ h=>h.less ((((List.sublist_append_left R M).append (List.Sublist.refl [(gz,5,(D9 (λ_=>[Value.int .u8 0]) n).toArray)])).cons (g5,164,rrC (.slice A m cp) f.1 f.2.1)).cons_cons (gr,166,rrC (.slice A m cp) f.1 f.2.1))) ⟨_,_,_,_,q1,⟨(PA gz n om).as,q4⟩,q2,q3,rfl⟩
theorem Eu (w0:Base) (gr:Nat) (sl:Value) (b:Byt) (at_ e k:Nat) (R:AA) (hat:at_≤b.length) (he:e≤200) (hk:k≤8) (hl:b.length≤70368744177664) (hv:BytR (rdW w0.world) sl b) (w:World) (hw:St w0 w (RB gr sl at_ e R)) :
  AL 69 #[ptr gr,.int .i64 (k:Int)] w (AQ w0 (Rfd (BT k) (λx v N=>v=uZ (x:Int)∧x<18446744073709551616∧N=[]) gr sl b R at_ e)):=by
 refine Sy.enterT (args:=[ptr gr,.int .i64 (k:Int)]) hw Tryz.func69 J kL<|sC<|sP (uZ 0)<|sA<|sp J<|sp J<|Sy.callT (λw hw=>Dk w0.inn gr sl b at_ e k R hat he om hl hv w hw) (λu M hM=>?_)
 obtain ⟨x,a2,e2,N,q1,⟨q2,q3⟩,q4,q5,rfl⟩:=hM
 have hs:said x<18446744073709551616:=by
  have h1:=Cm x
  have h3:256 ^ x.length≤256 ^ 8:=Nat.pow_le_pow_right dZ om
  exact Nat.lt_of_lt_of_le h1 h3
 refine sS (uZ ((said x:Nat):Int)) (qg (λw' hw=>E7 w' u x om (q2.byt.le (λg o v h=>Ad (w0:=w0.inn) hw (R:=N) (λb hb=>List.mem_cons_of_mem _ (List.mem_append_right _ hb)) g o v (.inr h)))))<|sp J<|sG<|Sy.ret ?_
 exact Sy.retT1 (RB gr sl a2 e2 (R++[])) J (.inl (show _=_ by kernel_rfl)) (λ_ h=>h.less (((List.Sublist.refl R).append (List.nil_sublist N)).cons_cons _)) ⟨_,_,_,[],q1.bind (After.ret (said x) _),⟨rfl,hs,rfl⟩,q4,q5,rfl⟩
theorem C' (w0:Base) (gr:Nat) (sl:Value) (b:Byt) (at_ e most:Nat) (R:AA) (hat:at_≤b.length) (he:e≤200) (hm:most≤1000000) (hl:b.length≤70368744177664) (hv:BytR (rdW w0.world) sl b) (w:World) (hw:St w0 w (RB gr sl at_ e R)) :
  AL 70 #[ptr gr,.int .i64 (most:Int)] w (AQ w0 (Rfd (Fj most) (λx v N=>v=.int .i64 (x:Int)∧x≤most∧N=[]) gr sl b R at_ e)):=by
 obtain ⟨q1,q2,q3,q4⟩:=Gy b at_ e most hat he
 have hv0:=hv
 obtain ⟨A,m,cp,rfl,h2,h3,h4,h5⟩:=hv
 obtain ⟨f,hf⟩:=xE (gvN b at_ e most)
 rw [← hf] at q1 q2 q3 q4
 refine Sy.enterT (args:=[ptr gr,.int .i64 (most:Int)]) hw Tryz.func70 J kL<|sC<|sP (.int .i64 0)<|sA<|sp J<|sp J<|sP (pT gr 0)<|sS (rrV (.slice A m cp) at_ e) (qk 0 0 3 J J Bd)<|sp J<|sS (uZ (most:Int)) (Quiet.pure (λw=>DG w _ _ _ most om J J))<|sS (.tuple #[rrV (.slice A m cp) f.1 f.2.1,uZ ((f.2.2:Nat):Int)]) (qg (λw' hw=>by rw [hf]; exact HN w' (.slice A m cp) b at_ e most hat om hl (hv0.le (λg o u hu=>Ad (w0:=w0.inn) (R:=[]) hw (λ_ h=>by cases h) g o u (.inl hu)))))<|sp J<|sp J<|sp J<|sM 164 (rrC (.slice none 0 0) 0 0) (λg5=>?_)
 refine Sy.movT (pre:=[(gr,166,rrC (.slice A m cp) at_ e)]) (T:=R)<|sw 1 J (rrC (.slice A m cp) f.1 f.2.1) (wA J)<|sp J<|sA<|sp J<|sS (rrV (.slice A m cp) f.1 f.2.1) (qk 1 0 3 J J Bd)<|sp J<|sP (pT gr 0)<|sw 0 J (rrC (.slice A m cp) f.1 f.2.1) (wA J)<|sA<|sp J<|sS (iZ f.2.2) (Quiet.pure (λw=>GX w _ _ _ f.2.2 om J J))<|sp J<|sG<|Sy.ret ?_
 exact Sy.retT1 (RB gr (.slice A m cp) f.1 f.2.1 (R++[])) J (.inl (show _=_ by kernel_rfl)) (λ_ h=>by rw [List.append_nil]; exact NP h) ⟨_,_,_,[],q1,⟨rfl,q4,rfl⟩,q2,q3,rfl⟩
theorem Dt (w0:Base) (gr:Nat) (sl:Value) (at_ e:Nat) {L:AA} (hL:(gr,166,rrC sl at_ e)∈L) (w:World) (hw:St w0 w L) :
  AL 71 #[ptr gr] w (Ai w (.bool (decide (e=0)))):=by
 have hb:=(hw.blk _ _ _ hL).2
 have hlt:=hb.lt
 obtain ⟨b1,hb1⟩:=xE (decide (e=0))
 rw [← hb1]
 refine Sy.enter (args:=[ptr gr]) Tryz.func71 J kL<|sC<|sP (.bool false)<|sA<|sp J<|sp J<|sP (pT gr 0)<|sP (pT gr 2)<|sS (.int .i64 (e:Int)) (Quiet.thereOne gr 2 28 _ _ J kR hlt _ (hb.cell 2) En J)<|sS (.bool b1) (qeq J J J hb1)<|sp J<|sG<|Sy.ret ?_
 exact rV (.bool b1) rfl
theorem wM {P:Program} {F:AJ} {o:Oper} {g:Nat} {t:TypeId} (ty:TypeId) (A z v Z:List Value) (k f:Nat) (x y:Operand) (ho:o.op=.store ty x y) (hx:evF F x=pT g f) (hy:evF F y=.agg v.toArray) (hi:(P.info? ty).map (·.size)=some k) (hA:A.length=f) (hz:z.length=k) (hv:v.length=k) (h1:∀ u∈v,u.oneCell'=true):Sy.Writes P F o g t (A++(z++Z)).toArray (A++(v++Z)).toArray :=
 Sy.Writes.store f ty v.toArray x y ho hx hy (by rw [hi,List.size_toArray,hv]) (by rw [List.size_toArray,List.size_toArray,List.length_append,List.length_append]; omega) (by rw [List.all_toArray,List.all_eq_true]; exact h1) (by show B' _ f v=_; exact Di hA om)
theorem Ho (x:Byt):∀ u∈x.map bv,u.oneCell'=true:=λu hu=>by obtain ⟨y,_,rfl⟩:=List.mem_map.1 hu; rfl
theorem Ca (w0:Base) (gr:Nat) (sl:Value) (b:Byt) (at_ e:Nat) (R:AA) (hat:at_≤b.length) (he:e≤200) (hl:b.length≤70368744177664) (hv:BytR (rdW w0.world) sl b) (w:World) (hw:St w0 w (RB gr sl at_ e R)) :
  AL 127 #[ptr gr] w (AQ w0 (Rfd (An 32) (λx v N=>v=.agg (x.map bv).toArray∧x.length=32∧N=[]) gr sl b R at_ e)):=by
 refine Sy.enterT (args:=[ptr gr]) hw Tryz.func127 J kL<|sC<|sM 37 Z32.toArray (λg2=>?_)
 refine Sy.movT (pre:=[(gr,166,rrC sl at_ e)]) (T:=R)<|sA<|sp J<|Sy.callT (λw hw=>Dk w0.inn gr sl b at_ e 32 ((g2,37,Z32.toArray)::R) hat he dZ hl hv w hw) (λu M hM=>?_)
 obtain ⟨x,a2,e2,N,q1,⟨q2,q3⟩,q4,q5,rfl⟩:=hM
 obtain ⟨A,n,cp,rfl,k2,k3,k4,k5⟩:=q2.byt
 obtain ⟨gb,ob,rfl,hq⟩:=k5 (by intro h; rw [h] at q3; cases q3)
 refine sp J<|sA<|sM 37 Z32.toArray (λg4=>?_)
 refine Sy.movT (pre:=[(gr,166,rrC sl a2 e2),(g2,37,Z32.toArray)]) (T:=R++N)<|sG<|Sy.seq<|sC<|sP (.int .i64 0)<|sG<|Sy.block<|Sy.loopT (Y:=Unit) 32 (λi _=>[(0,ptr gr),(2,ptr g2),(3,.slice (some ⟨gb,ob,none⟩) n cp),(4,ptr g4),(5,.int .i64 (i:Int))]) (λi _=>[(gr,166,rrC sl a2 e2),(g2,37,Z32.toArray),(g4,37,((x.map bv).take i++Z32.drop i).toArray)]++(R++N)) (λ_ _=>True) () trivial ac5 (λ_ h=>h) (λi _ hi _=>?_)
 dsimp only
 refine Sy.seq<|sC ?_
 obtain ⟨b2,hb2⟩:=xE (decide (i<32))
 refine sp J<|sS (.bool b2) (qls J J J hb2)<|sG ?_
 cases b2
 case' false =>
  have l2:=dN hb2
  obtain rfl:i=32:=om
  have ec:(x.map bv).take 32++Z32.drop 32=x.map bv:=by
   rw [List.take_of_length_le (by rw [List.length_map,q3]; exact Nat.le_refl _),show Z32.drop 32=[] from rfl,List.append_nil]
  rw [ec]
  refine sU<|Sy.exit<|Sy.then_exit<|Sy.then_exit<|Sy.in_exit<|Sy.then_<|sC<|sS (.agg (x.map bv).toArray) (Quiet.mid 2 g4 0 32 37 37 (x.map bv) (x.map bv) _ _ J kR J Dd J kR (by rw [List.drop_zero,List.take_of_length_le (by rw [List.length_map,q3]; exact Nat.le_refl _)]) (by rw [List.length_map,q3]; exact Nat.le_refl _))<|sw 1 J (x.map bv).toArray (Writes.row 37 (x.map bv) 32 _ _ J kR kR kR (by rw [List.length_map,q3]) kZ (Ho x))<|sG<|Sy.ret ?_
  exact Sy.retT1 (RB gr sl a2 e2 (R++[])) J (.inl (Sy.Res.cell (ty':=37) g2 1 (x.map bv).toArray _ kZ J Dd J (by rw [List.size_toArray,List.length_map,q3]; kernel_rfl) rfl)) (λ_ h=>h.less (((((List.Sublist.refl R).append (List.nil_sublist N)).cons (g4,37,(x.map bv).toArray)).cons (g2,37,(x.map bv).toArray)).cons_cons (gr,166,rrC sl a2 e2))) ⟨x,a2,e2,[],q1,⟨rfl,q3,rfl⟩,q4,q5,rfl⟩
 have l2:=dY hb2
 obtain ⟨u,hu⟩:∃ u,x[i]? = some u:=⟨_,List.getElem?_eq_getElem om⟩
 have hAl:((x.map bv).take i).length=i:=by rw [List.length_take,List.length_map,q3]; omega
 obtain ⟨z0,Z1,hz⟩:∃ z0 Z1,Z32.drop i=z0::Z1∧Z1=Z32.drop (i+1):=⟨_,_,List.drop_eq_getElem_cons (by rw [Cn]; exact l2),rfl⟩
 obtain ⟨hz,hz1⟩:=hz
 have hnx:(x.map bv).take (i+1)++Z32.drop (i+1)=(x.map bv).take i++(bv u::Z1):=by
  rw [List.take_add_one,List.getElem?_map,hu, ← hz1,List.append_assoc]; rfl
 rw [hz]
 refine sT<|Sy.skip<|Sy.then_<|Sy.seq<|Sy.block<|Sy.region<|sp J<|sp J<|sp J<|sS (.pointer (some ⟨gb,ob+i*1,none⟩)) (Quiet.pure (BJ 27 _ _ _ (some ⟨gb,ob,none⟩) gb ob n cp i 1 .i64 J J J J Aw kF om))<|sS (bv u) (AK (R:=N) (g:=gb) (f:=ob+i*1) (.inr (by rw [Nat.mul_one]; exact hq i u hu)) (λb h=>List.mem_append_right _ (List.mem_append_right _ h)) J uy5)<|sS (.pointer (some ⟨g4,0+i*1,none⟩)) (Quiet.pure (BA 37 _ _ _ g4 0 _ i 1 .i64 J J J Dd kF l2))<|sw 2 J ((x.map bv).take i++(bv u::Z1)).toArray (Writes.one (0+i*1) 5 (bv u) _ _ J kR kR kR J J (by rw [List.size_toArray,List.length_append,hAl]; simp) (Bt (by rw [hAl]; omega)))<|Sy.nil<|Sy.in_<|Sy.then_<|Sy.region<|sp J<|sS (iZ (i+1)) (qad J J J)<|sp J<|Sy.nil ?_
 exact Sy.againT () l2 trivial ac5 (λw h=>by rw [hnx]; exact h)
def H9 {α:Type} (k:Nat) (rep:Rdr→List Value→α→Prop) (x:α) (v:Value) (N:AA):Prop:=∃ cs,v=.agg cs.toArray∧cs.length=k∧(∀ u∈cs,u.oneCell'=true)∧rep (rdB N) cs x
theorem RC (w:World) (sl:Value) (b:Byt) (at_ e:Nat) (hat:at_≤b.length) (hl:b.length≤70368744177664) (hv:BytR (rdW w) sl b) :
  AL 74 #[rrV sl at_ e] w (Ai w (iZ (if e=0∧at_<b.length then 113 else e))):=by
 obtain ⟨A,m,cp,rfl,h2,h3,h4,h5⟩:=hv
 rw [h2]
 refine Sy.enter (args:=[rrV (.slice A m cp) at_ e]) Tryz.func74 J kL<|sC<|sM 164 (rrC (.slice A m cp) at_ e) (λg1=>?_)
 refine sP (.int .i64 0)<|sG<|Sy.seq<|sC ?_
 obtain ⟨b1,hb1⟩:=xE (decide (e=0))
 refine sP (pT g1 2)<|sS (.int .i64 (e:Int)) (qc 0 2 J J En)<|sS (.bool b1) (qeq J J J hb1)<|sp J ?_
 cases b1
 ·have l1:=dN hb1
  rw [if_neg (λh=>l1 h.1)]
  refine sN<|sN<|sN<|sN<|sN<|sN<|sP (.bool false)<|sG<|sU<|Sy.skip<|sB<|sP (pT g1 2)<|sS (.int .i64 (e:Int)) (qc 0 2 J J En)<|sp J<|sG<|Sy.ret ?_
  exact rV (.int .i64 (e:Int)) J
 ·have l1:=dY hb1
  obtain ⟨b2,hb2⟩:=xE (decide (at_<m))
  refine sP (pT g1 1)<|sS (.int .i64 (at_:Int)) (qc 0 1 J J uy3)<|sP (pT g1 0)<|sS (.slice A m cp) (qc 0 0 J J Aw)<|sP (.int .i64 (m:Int))<|sS (.bool b2) (qls J J J hb2)<|sP (.bool b2)<|sG ?_
  cases b2
  ·rw [if_neg (λh=>of_decide_eq_false hb2.symm h.2)]
   refine sU<|Sy.skip<|sB<|sP (pT g1 2)<|sS (.int .i64 (e:Int)) (qc 0 2 J J En)<|sp J<|sG<|Sy.ret ?_
   exact rV (.int .i64 (e:Int)) J
  ·rw [if_pos ⟨l1,of_decide_eq_true hb2.symm⟩]
   refine sT<|sC<|sP (.int .i64 113)<|sG<|Sy.ret<|Sy.then_ret ?_
   exact rV (.int .i64 113) rfl
def LH (b:Byt) (at_ e:Nat):Nat:=if e=0∧at_<b.length then 113 else e
theorem Mf (w0:Base) (gr:Nat) (sl:Value) (b:Byt) (at_ e:Nat) (R:AA) (he:e≤200) (hat:at_≤b.length) (hl:b.length≤70368744177664) (hv:BytR (rdW w0.world) sl b) (w:World) (hw:St w0 w (RB gr sl at_ e R)) :
  AL 34 #[ptr gr] w (AQ w0 (λv M=>v=iZ (if LH b at_ e≠0 then 120 else 0)∧M=RB gr sl at_ e R)):=by
 have hv0:=hv
 obtain ⟨A,m,cp,rfl,h2,h3,h4,h5⟩:=hv
 obtain ⟨f,hf⟩:=xE (LH b at_ e)
 have hfl:f≤200:=by rw [hf]; unfold LH; split <;> omega
 rw [← hf]
 refine Sy.enterT (args:=[ptr gr]) hw Tryz.func34 J kL<|sC<|sP (.int .i64 0)<|sG<|Sy.seq<|sC ?_
 obtain ⟨b1,hb1⟩:=xE (decide (f≠0))
 refine sp J<|sp J<|sP (pT gr 0)<|sS (rrV (.slice A m cp) at_ e) (qk 0 0 3 J J Bd)<|sS (.int .i64 (f:Int)) (qg (λw' hw=>by rw [hf]; exact RC w' (.slice A m cp) b at_ e hat hl (hv0.le (λg o u hu=>Ad (w0:=w0.inn) (R:=[]) hw (λ_ h=>by cases h) g o u (.inl hu)))))<|sS (.bool b1) (qne J J J hb1)<|sG ?_
 cases b1
 ·rw [if_neg (of_decide_eq_false hb1.symm)]
  refine sU<|Sy.skip<|sB<|sP (.int .i64 0)<|sG<|Sy.ret ?_
  exact Sy.retT1 (RB gr (.slice A m cp) at_ e R) rfl (.inl (show _=_ by kernel_rfl)) (λ_ h=>h) ⟨rfl,rfl⟩
 ·rw [if_pos (of_decide_eq_true hb1.symm)]
  refine sT<|sC<|sP (.int .i64 120)<|sG<|Sy.ret<|Sy.then_ret ?_
  exact Sy.retT1 (RB gr (.slice A m cp) at_ e R) rfl (.inl (show _=_ by kernel_rfl)) (λ_ h=>h) ⟨rfl,rfl⟩
theorem Mi (w:World) (sl:Value) (b:Byt) (hv:BytR (rdW w) sl b):AL 32 #[sl] w (BD w (λv M=>∃ g,v=ptr g∧M=[(g,166,rrC sl 0 0)])):=by
 obtain ⟨A,m,cp,rfl,h2,h3,h4,h5⟩:=hv
 refine Sy.enter (args:=[.slice A m cp]) Tryz.func32 J kL<|sC<|sP (.pointer none)<|sA<|sp J<|sP (rrV (.slice A m cp) 0 0)<|sP (rrV (.slice A m cp) 0 0)<|sM 166 (rrC (.slice A m cp) 0 0) (λg=>?_)
 refine sp J<|sG<|Sy.ret ?_
 exact Sy.retGM [(g,166,rrC (.slice A m cp) 0 0)] rfl (.inl (show _=_ by kernel_rfl)) (λ_ h=>h) ⟨g,rfl,rfl⟩
theorem After.stop {α:Type} {p:Ps α} {i n:Nat} {s s':RS} {xs:List α} (h:After (Bz p i) s xs s') (he:s'.e≠0) (hin:i≤n):After (Bz p n) s xs s' :=
 ⟨λ_=>he,λy r h0 hp=>by
  cases hi:Bz p i s.rest with
  | none=>rw [JB hi n hin] at hp; cases hp
  | some u =>
   obtain ⟨y1,r1⟩:=u
   obtain ⟨_,e⟩:=h.yes y1 r1 h0 hi
   rw [e] at he
   exact (he J).elim,λ_ _=>he⟩
theorem After.snoc {α:Type} {p:Ps α} {i:Nat} {s s1 s2:RS} {xs:List α} {x:α} (h:After (Bz p i) s xs s1) (k:After p s1 x s2):After (Bz p (i+1)) s (xs++[x]) s2 :=
 have q:=h.bind (q:=λl=>AH p λx=>BF (l++[x])) (k.bind (q:=λx=>BF (xs++[x])) (After.ret (xs++[x]) s2))
 ⟨q.bad,λy r h0 hp=>q.yes y r h0 (by rw [← EC]; exact hp),λh0 hp=>q.no h0 (by rw [← EC]; exact hp)⟩
structure RLst (α:Type) where
 at_:Nat
 e:Nat
 xs:List α
 r:Slc
abbrev WB (gw:Nat) (bad:Bool) (s:Slc) (R:AA):AA:=[(gw,88,#[s.v,.bool bad])]++(s.bl++R)
theorem Aj {gw:Nat} {bad:Bool} {s:Slc} {R:AA} {x:Nat×TypeId×Array Value} (h:x∈R):x∈WB gw bad s R:=List.mem_append_right _ (List.mem_append_right _ h)
theorem Bo {w0:Base} {gw:Nat} {bad:Bool} {s:Slc} {R X:AA} {w:World} (h:St w0 w (WB gw bad s (R++X))):St w0 w (WB gw bad s R):=h.less ((List.Sublist.refl _).append ((List.Sublist.refl _).append (List.sublist_append_left _ _)))
def WRw (gw:Nat) (bad:Bool) (b x:Byt) (R:AA) (_:Value) (M:AA):Prop:=∃ r,BS r (b++x)∧M=WB gw bad r R
def Wd (gw:Nat) (R:AA) (ok:Bool) (e:Byt) (k:Nat) (bad:Bool) (b:Byt) (_:Value) (M:AA):Prop:=∃ s' bad' b',Wrote ok e k bad b bad' b'∧BS s' b'∧M=WB gw bad' s' R
theorem B_ (w0:Base) (gw:Nat) (bad:Bool) (s:Slc) (R:AA) (b:Byt) (v:Value) (x:Byt) (hb:BS s b) (hx:BytR (rdC w0 R) v x) (hl:b.length+x.length≤70368744177664) (w:World) (hw:St w0 w (WB gw bad s R)) :
  AL 83 #[ptr gw,v] w (AQ w0 (WRw gw bad b x R)):=by
 have hx0:=hx
 obtain ⟨A,n,cp,rfl,h2,h3,h4,h5⟩:=hx
 refine Sy.enterT (args:=[ptr gw,.slice A n cp]) hw Tryz.func83 J kL<|Sy.region<|sp J<|sp J<|sp J<|sP (pT gw 0)<|sS s.v (qc 0 0 J J Aw)<|sp J<|Sy.appendM (pre:=[(gw,88,#[s.v,.bool bad])]) (T:=R) kR 27 5 _ _ 1 1 Aw Cu.info_u8 J J J J dZ _ _ J hb kR (D5 x) (DO x) A n cp (by rw [As,h2]) h3 kR (λr=>BytR.from (w0:=w0.inn) hx0 (λy hy=>List.mem_append_right _ (List.mem_append_right _ hy))) (by rw [As]; omega) (by rw [As]; simp only [maxLen]; omega) (λr hr=>?_)
 have hr':BS r (b++x):=by show r.Is 5 1 _; rw [FK]; exact hr
 refine sp J<|sP (pT gw 0)<|sw 0 J #[r.v,.bool bad] (Writes.one 0 27 r.v _ _ J kR kR kR hr.cells.1 hr.cells.2 (Nat.succ_pos _) kR)<|Sy.nil ?_
 exact Sy.retT0 J (WB gw bad r R) (λ_ h=>h) (λ_=>⟨r,hr',rfl⟩)
theorem GI (w0:Base) (gw:Nat) (bad:Bool) (s:Slc) (R:AA) (b:Byt) (n k:Nat) (hn:n<18446744073709551616) (hk:k≤8) (hb:BS s b) (hl:b.length+8≤70368744177664) (w:World) (hw:St w0 w (WB gw bad s R)) :
  AL 63 #[ptr gw,.int .u64 (n:Int),.int .i64 (k:Int)] w (AQ w0 (WRw gw bad b (nb k n) R)):=by
 refine Sy.enterT (args:=[ptr gw,.int .u64 (n:Int),.int .i64 (k:Int)]) hw Tryz.func63 J kL<|Sy.region<|sp J<|sp J<|sp J<|Sy.callN kR 115 #[.int .u64 (n:Int),.int .i64 (k:Int)] kF _ (λw' _=>Du w' n k hn hk) (λu M hM=>?_)
 refine Sy.permS (M:=WB gw bad s (R++M)) (List.Perm.of_eq (by simp only [List.append_assoc]))<|Sy.callT (λw hw=>B_ w0.inn gw bad s (R++M) b u (nb k n) hb (hM.byt.le (λg o v h=>.inr (AV (λx hx=>List.mem_append_right _ hx) g o v h))) (by rw [B1]; omega) w hw) (λv M2 hM2=>?_)
 obtain ⟨r,hr,rfl⟩:=hM2
 refine Sy.nil ?_
 exact Sy.retT0 J (WB gw bad r R) (λ_ h=>Bo h) (λ_=>⟨r,hr,rfl⟩)
theorem OG (w:World) (x:Byt) (hx:x.length=32):AL 191 #[.agg (x.map bv).toArray] w (BD w (ByN x)):=by
 have hxl:(x.map bv).length=32:=by rw [List.length_map,hx]
 refine Sy.enter (args:=[.agg (x.map bv).toArray]) Tryz.func191 J kL<|sC<|sM 37 (x.map bv).toArray (λg1=>?_) kR (λw=>Aq J J kZ hxl w)
 refine sP (.slice none 0 0)<|sA<|sP (.slice none 0 0)<|sG<|Sy.seq<|sC<|sP (.int .i64 0)<|sG<|Sy.block<|Sy.loopT (Y:=Slc) 32 (λi y=>[(1,ptr g1),(3,y.v),(4,.int .i64 (i:Int))]) (λi y=>[(g1,37,(x.map bv).toArray)]++(y.bl++[])) (λi y=>BS y (x.take i)) nilS BS.nil ac3 (λ_ h=>h) (λi r hi hs=>?_)
 dsimp only at hs ⊢
 refine Sy.seq<|sC ?_
 obtain ⟨b2,hb2⟩:=xE (decide (i<32))
 refine sp J<|sS (.bool b2) (qls J J J hb2)<|sG ?_
 cases b2
 case' false =>
  have l2:=dN hb2
  obtain rfl:i=32:=om
  rw [List.take_of_length_le om] at hs
  refine sU<|Sy.exit<|Sy.then_exit<|Sy.then_exit<|Sy.in_exit<|Sy.then_<|sC<|sp J<|sp J<|sG<|Sy.ret ?_
  exact Sy.retGM r.bl J (.inl (show _=_ by kernel_rfl)) (λ_ h=>by rw [List.append_nil] at h; exact h.less (List.sublist_cons_self _ _)) hs.as
 have l2:=dY hb2
 obtain ⟨u,hu⟩:∃ u,x[i]? = some u:=⟨_,List.getElem?_eq_getElem om⟩
 refine sT<|Sy.skip<|Sy.then_<|Sy.seq<|Sy.block<|Sy.region<|sp J<|sp J<|sS (.pointer (some ⟨g1,0+i*1,none⟩)) (Quiet.pure (BA 37 _ _ _ g1 0 _ i 1 .i64 J J J Dd kF l2))<|sS (bv u) (Quiet.cell 0 g1 (0+i*1) 37 5 (x.map bv).toArray _ _ J kR J uy5 J _ (by rw [Nat.zero_add,Nat.mul_one,List.getElem?_toArray,List.getElem?_map,hu]; rfl)) ?_
 refine Sy.make kR 5 #[bv u] (λg=>.slice (pA g) 1 1) kF (λg2=>?_)
 refine Sy.movT (pre:=[(g1,37,(x.map bv).toArray)]) (T:=r.bl++[])<|Sy.appendR (pre:=[(g1,37,(x.map bv).toArray),(g2,5,#[bv u])]) (T:=[]) kR 27 5 _ _ 1 1 Aw Cu.info_u8 J J J J dZ _ _ J hs kR [bv u] rfl (λu hu=>by rw [List.mem_singleton.1 hu]; rfl) 1 g2 5 kR kR (by rw [As,List.length_take]; omega) (by rw [As,List.length_take]; simp only [maxLen]; omega) (λr' hr=>?_)
 refine sp J<|Sy.nil<|Sy.in_<|Sy.then_<|Sy.region<|sp J<|sS (iZ (i+1)) (qad J J J)<|sp J<|Sy.nil ?_
 have hr':BS r' (x.take (i+1)):=by
  show r'.Is 5 1 _
  rw [List.take_add_one,hu,show byL (x.take i++(some u).toList)=byL (x.take i)++[[bv u]] from FK _ _]
  exact hr
 exact Sy.againT r' l2 hr' ac3 (λw h=>h.less ((List.sublist_cons_self (g2,5,#[bv u]) (r'.bl++[])).cons_cons (g1,37,(x.map bv).toArray)))
theorem EL (w0:Base) (gw:Nat) (bad:Bool) (s:Slc) (R:AA) (b:Byt) (x:Byt) (hx:x.length=32) (hb:BS s b) (hl:b.length+32≤70368744177664) (w:World) (hw:St w0 w (WB gw bad s R)) :
  AL 144 #[ptr gw,.agg (x.map bv).toArray] w (AQ w0 (WRw gw bad b x R)):=by
 have hxl:(x.map bv).length=32:=by rw [List.length_map,hx]
 refine Sy.enterT (args:=[ptr gw,.agg (x.map bv).toArray]) hw Tryz.func144 J kL<|sC<|sM 37 (x.map bv).toArray (λg3=>?_) kR (λw=>Aq J J kZ hxl w)
 refine Sy.permS (M:=WB gw bad s (R++[(g3,37,(x.map bv).toArray)])) (List.Perm.of_eq (by simp only [List.append_assoc]))<|Sy.nil<|Sy.then_<|Sy.region<|sp J<|sS (.agg (x.map bv).toArray) (BQ (R:=[(g3,37,(x.map bv).toArray)]) (g:=g3) (f:=0) (k:=32) (cs:=x.map bv) (λi u hu=>.inr ⟨_,_,List.mem_singleton.2 J,by rw [Nat.zero_add,List.getElem?_toArray]; exact hu⟩) (λy hy=>Aj (List.mem_append_right R hy)) hxl J Dd) ?_
 refine Sy.callN kR 191 #[.agg (x.map bv).toArray] kF _ (λw' _=>OG w' x hx) (λu M hM=>?_)
 refine Sy.permS (M:=WB gw bad s (R++([(g3,37,(x.map bv).toArray)]++M))) (List.Perm.of_eq (by simp only [List.append_assoc]))<|Sy.callT (λw hw=>B_ w0.inn gw bad s (R++([(g3,37,(x.map bv).toArray)]++M)) b u x hb (hM.byt.le (λg o v h=>.inr (AV (λy hy=>List.mem_append_right _ (List.mem_append_right _ hy)) g o v h))) om w hw) (λv M2 hM2=>?_)
 obtain ⟨r,hr,rfl⟩:=hM2
 refine Sy.nil ?_
 exact Sy.retT0 J (WB gw bad r R) (λ_ h=>Bo h) (λ_=>⟨r,hr,rfl⟩)
theorem A0 (w0:Base) (gw:Nat) (bad ok:Bool) (s:Slc) (R:AA) (w:World) (hw:St w0 w (WB gw bad s R)) :
  AL 116 #[ptr gw,.bool ok] w (AQ w0 (λ_ M=>M=WB gw (bad || !ok) s R)):=by
 refine Sy.enterT (args:=[ptr gw,.bool ok]) hw Tryz.func116 J kL<|sC<|sp J<|sP (.bool (!ok))<|sG ?_
 cases ok
 ·rw [show (bad || !false)=true by cases bad <;> rfl]
  refine sT<|Sy.region<|sp J<|sp J<|sP (pT gw 1)<|sw 0 J #[s.v,.bool true] (wO 1 4 (.bool true) rfl)<|Sy.nil ?_
  exact Sy.retT0 (R:=λ_ M=>M=WB gw true s R) rfl (WB gw true s R) (λ_ h=>h) (λ_=>rfl)
 ·rw [show (bad || !true)=bad by cases bad <;> rfl]
  refine sU<|Sy.skip ?_
  exact Sy.retT0 (R:=λ_ M=>M=WB gw bad s R) rfl (WB gw bad s R) (λ_ h=>h) (λ_=>rfl)
theorem C_ (w0:Base) (gw:Nat) (bad:Bool) (s:Slc) (R:AA) (b:Byt) (n most:Nat) (hn:n≤1000000000000) (hm:most≤1000000) (hb:BS s b) (hl:b.length+9≤70368744177664) (w:World) (hw:St w0 w (WB gw bad s R)) :
  AL 64 #[ptr gw,.int .i64 (n:Int),.int .i64 (most:Int)] w (AQ w0 (Wd gw R (decide (n≤most)) (Ap n) 9 bad b)):=by
 refine Sy.enterT (args:=[ptr gw,.int .i64 (n:Int),.int .i64 (most:Int)]) hw Tryz.func64 J kL<|sC ?_
 obtain ⟨ok,hok⟩:=xE (decide (n≤most))
 rw [← hok]
 refine sp J<|sp J<|sp J<|sS (.bool ok) (qle J J J hok)<|Sy.callT (λw hw=>A0 w0.inn gw bad ok s R w hw) (λv M hM=>?_)
 subst hM
 refine Sy.nil<|Sy.then_<|Sy.region<|sp J<|sp J<|sS (uZ (n:Int)) (Quiet.pure (λw=>DG w _ _ _ n om J J))<|Sy.callN kR 117 #[uZ (n:Int)] kF _ (λw' _=>Db w' n om) (λu M hM=>?_)
 refine Sy.permS (M:=WB gw (bad || !ok) s (R++M)) (List.Perm.of_eq (by simp only [List.append_assoc])) ?_
 have hvl:=Dc n
 refine Sy.callT (λw hw=>B_ w0.inn gw (bad || !ok) s (R++M) b u (Ap n) hb (hM.byt.le (λg o v h=>.inr (AV (λx hx=>List.mem_append_right _ hx) g o v h))) om w hw) (λv M2 hM2=>?_)
 obtain ⟨r,hr,rfl⟩:=hM2
 refine Sy.nil ?_
 have q:=(Wrote.must ok bad b).then_ (Wrote.raw (Ap n) (bad || !ok) b hvl)
 rw [Bool.and_true] at q
 exact Sy.retT0 J (WB gw (bad || !ok) r R) (λ_ h=>Bo h) (λ_=>⟨r,bad || !ok,b++Ap n,q,hr,rfl⟩)
theorem O3 (w0:Base) (gw:Nat) (bad:Bool) (s:Slc) (R:AA) (w:World) (hw:St w0 w (WB gw bad s R)) :
  AL 30 #[ptr gw] w (AQ w0 (λv M=>v=(if bad=true then .tuple #[.slice none 0 0,.int .i64 120] else .tuple #[s.v,.int .i64 0])∧M=WB gw bad s R)):=by
 refine Sy.enterT (args:=[ptr gw]) hw Tryz.func30 J kL<|sC<|sP (.slice none 0 0)<|sP (.int .i64 0)<|sG<|Sy.seq<|sC<|sp J<|sp J<|sP (pT gw 1)<|sS (.bool bad) (qc 0 1 J J uy4)<|sG ?_
 cases bad
 ·rw [if_neg dZ]
  refine sU<|Sy.skip<|sB<|sp J<|sp J<|sP (pT gw 0)<|sS s.v (qc 0 0 J J Aw)<|sp J<|sP (.int .i64 0)<|sG<|Sy.ret ?_
  exact Sy.retT2 (WB gw false s R) rfl (.inl (show _=_ by kernel_rfl)) (.inl (show _=_ by kernel_rfl)) (λ_ h=>h) ⟨rfl,rfl⟩
 ·rw [if_pos J]
  refine sT<|sC<|sP (.slice none 0 0)<|sP (.int .i64 120)<|sG<|Sy.ret<|Sy.then_ret ?_
  exact Sy.retT2 (WB gw true s R) rfl (.inl (show _=_ by kernel_rfl)) (.inl (show _=_ by kernel_rfl)) (λ_ h=>h) ⟨rfl,rfl⟩
theorem Sh {α:Type} {C:Rdr} {k:Nat} {rep:Rdr→List Value→α→Prop} {v:Value} {l:List α} {q:α→Prop} (h:LstR C k rep v l) (hq:∀ cs x,rep C cs x→q x):∀ x∈l,q x:=by
 obtain ⟨A,n,cp,rfl,h2,h3,h4,h5⟩:=h
 intro x hx
 obtain ⟨g,o,rfl,h6⟩:=h5 (List.ne_nil_of_mem hx)
 obtain ⟨j,hj⟩:=List.getElem?_of_mem hx
 obtain ⟨cs,_,_,q3,_⟩:=h6 j x hj
 exact hq cs x q3
theorem Oe {P:Program} {w0:Base} {n:Nat} {Q:Exit→Act→World→Prop} {F:AJ} {L:AA} {ops:Array Oper} {ex:Nat→Bool} {fuel:Nat} {listed:Array Bool} {k:Nat} {oi:Oper} (hi0:ops.toList[k]? = some oi) (hg:Cl ops F oi=some true) (hex:ex k=true) (h:∀ Q',(∀ F' L',wpD P w0 n ops Q ex F' L' fuel (listed.setIfInBounds k true)→wpS P w0 n ops Q' F' L' [])→wpS P w0 n ops Q' F L [oi]):wpO P w0 n ops Q ex F L fuel listed k :=
 ⟨oi,by simpa using hi0,hg,λa w ha hw w1 h1 K hK=>by
  have q:=h (QL Q K) (λF' L' hd a' w' ha' hw'=>wpList_nil (hK _ _ (λe=>by rw [hex] at e; cases e) (hd a' w' ha' hw'))) a w1 ha (hw.gr h1)
  unfold wpList at q
  rw [if_pos (ha.wanted hg)] at q
  rcases q with q | ⟨_,a',w',q⟩
  ·exact Ml (K':=K) q
  ·exact q.elim⟩
theorem C4 {P:Program} {w0:Base} {n:Nat} {Q:Exit→Act→World→Prop} {F:AJ} {L:AA} {ops:Array Oper} {ex:Nat→Bool} {fuel:Nat} {listed:Array Bool} {T:Type} {FF:T→AJ} {LL:T→AA} {H:T→Prop} {li:Array Bool} (h:∀ x,H x→wpD P w0 n ops Q ex (FF x) (LL x) fuel li) (x:T) (hx:H x) (hl:listed=li) (hF:∀ p∈FF x,F.lookup p.1=some p.2) (p:L.Perm (LL x)):wpD P w0 n ops Q ex F L fuel listed:=λa w ha hw=>by
 subst hl
 exact h x hx a w (ha.all hF) (hw.perm p)
def DJ (lo hi:Nat):Ps Int:=AH (BT 1) λn=>AH (BH (decide (lo≤n∧n≤hi))) λ_=>BF (n:Int)
theorem Mr:DJ 0 255=CH:=by
 funext l
 unfold DJ CH
 cases h:BT 1 l with
 | none=>rw [bind_none h,bind_none h]
 | some u =>
  obtain ⟨n,r⟩:=u
  have hn:n<256:=Lz h
  rw [bind_some h,bind_some h,decide_eq_true (show 0≤n∧n≤255 by omega)]
  rfl
theorem FJ (w0:Base) (gr:Nat) (sl:Value) (at_ e:Nat) (R:AA) (w:World) (hw:St w0 w (RB gr sl at_ e R)) :
  AL 148 #[ptr gr] w (AQ w0 (λ_ M=>M=RB gr sl at_ (if e=0 then 120 else e) R)):=by
 refine Sy.enterT (args:=[ptr gr]) hw Tryz.func148 J kL<|sC ?_
 obtain ⟨b1,hb1⟩:=xE (decide (e=0))
 refine sp J<|sp J<|sP (pT gr 0)<|sP (pT gr 2)<|sS (.int .i64 (e:Int)) (qc 0 2 J J En)<|sS (.bool b1) (qeq J J J hb1)<|sG ?_
 cases b1
 ·rw [if_neg (of_decide_eq_false hb1.symm)]
  refine sU<|Sy.skip ?_
  exact Sy.retT0 J (RB gr sl at_ e R) (λ_ h=>h) (λ_=>by rfl)
 ·rw [if_pos (of_decide_eq_true hb1.symm)]
  refine sT<|Sy.region<|sp J<|sp J<|sP (pT gr 0)<|sP (pT gr 2)<|sw 0 J (rrC sl at_ 120) (wO 2 28 (.int .i64 120) rfl)<|Sy.nil ?_
  exact Sy.retT0 J (RB gr sl at_ 120 R) (λ_ h=>h) (λ_=>by rfl)
theorem QU (w0:Base) (gr:Nat) (sl:Value) (b:Byt) (at_ e:Nat) (R:AA) (hat:at_≤b.length) (he:e≤200) (hl:b.length≤70368744177664) (hv:BytR (rdW w0.world) sl b) (w:World) (hw:St w0 w (RB gr sl at_ e R)) :
  AL 69 #[ptr gr,.int .i64 1] w (AQ w0 (Rfd (BT 1) (λx v N=>v=uZ (x:Int)∧x<256∧N=[]) gr sl b R at_ e)):=by
 refine Sy.enterT (args:=[ptr gr,.int .i64 1]) hw Tryz.func69 J kL<|sC<|sP (uZ 0)<|sA<|sp J<|sp J<|Sy.callT (λw hw=>Dk w0.inn gr sl b at_ e 1 R hat he om hl hv w hw) (λu M hM=>?_)
 obtain ⟨x,a2,e2,N,q1,⟨q2,q3⟩,q4,q5,rfl⟩:=hM
 have hs:said x<256:=by
  have h1:=Cm x
  rw [q3] at h1
  exact h1
 refine sS (uZ ((said x:Nat):Int)) (qg (λw' hw=>E7 w' u x om (q2.byt.le (λg o v h=>Ad (w0:=w0.inn) hw (R:=N) (λb hb=>List.mem_cons_of_mem _ (List.mem_append_right _ hb)) g o v (.inr h)))))<|sp J<|sG<|Sy.ret ?_
 exact Sy.retT1 (RB gr sl a2 e2 (R++[])) J (.inl (show _=_ by kernel_rfl)) (λ_ h=>h.less (((List.Sublist.refl R).append (List.nil_sublist N)).cons_cons _)) ⟨_,_,_,[],q1.bind (After.ret (said x) _),⟨rfl,hs,rfl⟩,q4,q5,rfl⟩
theorem CX (lo hi:Nat) (w0:Base) (gr:Nat) (sl:Value) (b:Byt) (at_ e:Nat) (R:AA) (hat:at_≤b.length) (he:e≤200) (hl:b.length≤70368744177664) (hv:BytR (rdW w0.world) sl b) (w:World) (hw:St w0 w (RB gr sl at_ e R)) :
  AL 85 #[ptr gr,.int .i64 (lo:Int),.int .i64 (hi:Int)] w (AQ w0 (Rfd (DJ lo hi) (λx v N=>v=.int .i64 x∧N=[]) gr sl b R at_ e)):=by
 refine Sy.enterT (args:=[ptr gr,.int .i64 (lo:Int),.int .i64 (hi:Int)]) hw Tryz.func85 J kL<|sC<|sP (.int .i64 0)<|sA<|sp J<|Sy.callT (λw hw=>QU w0.inn gr sl b at_ e R hat he hl hv w hw) (λu M hM=>?_)
 obtain ⟨n,a2,e2,N,q1,⟨rfl,q2,rfl⟩,q4,q5,rfl⟩:=hM
 rw [List.append_nil]
 refine sS (iZ n) (Quiet.pure (λw=>GX w _ _ _ n om J J))<|sp J<|sG<|Sy.seq ?_
 obtain ⟨bd,hbd⟩:=xE (!decide (lo≤n∧n≤hi))
 refine Sy.seq<|DN [(0,ptr gr),(7,.int .i64 (n:Int)),(18,.bool bd)] (RB gr sl a2 e2 R) ?_ ?_
 ·refine Sy.region ?_
  obtain ⟨b1,hb1⟩:=xE (decide (n<lo))
  refine sp J<|sp J<|sS (.bool b1) (qls J J J hb1)<|sp J ?_
  cases b1
  ·obtain ⟨b2,hb2⟩:=xE (decide (hi<n))
   have l1:=dN hb1
   obtain rfl:bd=b2:=by
    rw [hbd,hb2]
    by_cases h:hi<n
    ·rw [decide_eq_true h,decide_eq_false om]; rfl
    ·rw [decide_eq_false h,decide_eq_true om]; rfl
   refine sp J<|sp J<|sS (.bool bd) (qgt J J J hb2)<|sP (.bool bd)<|Sy.nil ?_
   exact A_ ac3 (λ_ h=>h)
  ·have l1:=dY hb1
   obtain rfl:bd=true:=by rw [hbd,decide_eq_false om]; rfl
   refine sN<|sN<|sN<|sP (.bool true)<|Sy.nil ?_
   exact A_ ac3 (λ_ h=>h)
 refine Sy.then_ ?_
 cases bd
 ·have l2:decide (lo≤n∧n≤hi)=true:=by
   cases h:decide (lo≤n∧n≤hi) with
   | true=>rfl
   | false=>rw [h] at hbd; cases hbd
  refine sU<|Sy.skip<|sB<|sp J<|sp J<|sG<|Sy.ret ?_
  exact Sy.retT1 (RB gr sl a2 e2 (R++[])) J (.inl (show _=_ by kernel_rfl)) (λ_ h=>by rw [List.append_nil]; exact h) ⟨(n:Int),_,_,[],q1.bind (by rw [l2]; exact After.ret _ _),⟨rfl,rfl⟩,q4,q5,rfl⟩
 ·have l2:decide (lo≤n∧n≤hi)=false:=by
   cases h:decide (lo≤n∧n≤hi) with
   | false=>rfl
   | true=>rw [h] at hbd; cases hbd
  obtain ⟨e3,he3⟩:=xE (if e2=0 then 120 else e2)
  have l3:e3≠0:=by rw [he3]; split <;> omega
  refine sT<|Sy.region<|sp J<|Sy.callT (λw hw=>FJ w0.inn gr sl a2 e2 R w hw) (λu M hM=>?_)
  subst hM
  rw [← he3]
  refine Sy.nil<|sB<|sp J<|sp J<|sG<|Sy.ret ?_
  exact Sy.retT1 (RB gr sl a2 e3 (R++[])) J (.inl (show _=_ by kernel_rfl)) (λ_ h=>by rw [List.append_nil]; exact h) ⟨(n:Int),_,_,[],q1.bind (by rw [l2]; exact After.mustN _ l3),⟨rfl,rfl⟩,q4,by rw [he3]; split <;> omega,rfl⟩
def okS (lo hi:Nat) (z:Int):Bool:=decide ((lo:Int)≤z) && decide (z≤(hi:Int))
theorem Dh (w0:Base) (gw:Nat) (bad:Bool) (s:Slc) (R:AA) (b:Byt) (lo hi:Nat) (z:Int) (hb:BS s b) (hl:b.length+1≤70368744177664) (w:World) (hw:St w0 w (WB gw bad s R)) :
  AL 82 #[ptr gw,.int .i64 z,.int .i64 (lo:Int),.int .i64 (hi:Int)] w (AQ w0 (Wd gw R (okS lo hi z) [CQ z] 1 bad b)):=by
 refine Sy.enterT (args:=[ptr gw,.int .i64 z,.int .i64 (lo:Int),.int .i64 (hi:Int)]) hw Tryz.func82 J kL ?_
 obtain ⟨ok,hok⟩:=xE (okS lo hi z)
 obtain ⟨b1,hb1⟩:=xE (decide ((lo:Int)≤z))
 obtain ⟨b2,hb2⟩:=xE (decide (z≤(hi:Int)))
 have e:ok=(b1 && b2):=by rw [hok,hb1,hb2]; rfl
 rw [← hok]
 refine Sy.seq<|DN [(0,ptr gw),(1,.int .i64 z)] (WB gw (bad || !ok) s R) ?_ ?_
 ·refine Sy.region ?_
  refine sp J<|sp J<|sp J<|sS (.bool b1) (Quiet.pure (AE .geq _ _ _ .i64 _ _ _ J J J (Dy _ _ _ _ _ (by rw [hb1]))))<|sp J ?_
  cases b1
  case' false =>
   obtain rfl:ok=false:=e
   refine sN<|sN<|sN<|sP (.bool false)<|Sy.callT (λw hw=>A0 w0.inn gw bad false s R w hw) (λu M hM=>?_)
  case' true =>
   obtain rfl:ok=b2:=e
   refine sp J<|sp J<|sS (.bool ok) (Quiet.pure (AE .leq _ _ _ .i64 _ _ _ J J J (Eb _ _ _ _ _ (by rw [hb2]))))<|sP (.bool ok)<|Sy.callT (λw hw=>A0 w0.inn gw bad ok s R w hw) (λu M hM=>?_)
  all_goals
   subst hM
   refine Sy.nil ?_
   exact A_ ac2 (λ_ h=>h)
 refine Sy.then_<|Sy.region<|sp J<|sp J<|sS (bv (CQ z)) (Quiet.pure (λw=>Nl w _ _ _ z J J))<|Sy.make kR 5 #[bv (CQ z)] (λg=>.slice (pA g) 1 1) kF (λg1=>?_)
 refine Sy.permS (M:=WB gw (bad || !ok) s (R++[(g1,5,#[bv (CQ z)])])) (List.Perm.of_eq (by simp only [List.append_assoc]))<|Sy.callT (λw hw=>B_ w0.inn gw (bad || !ok) s (R++[(g1,5,#[bv (CQ z)])]) b (.slice (pA g1) 1 1) [CQ z] hb ⟨_,_,_,rfl,rfl,Nat.le_refl _,by decide,λ_=>⟨g1,0,rfl,λj u hj=>.inr ⟨5,#[bv (CQ z)],List.mem_append_right _ (List.mem_singleton.2 J),by
  cases j with
  | zero=>cases hj; rfl
  | succ j=>cases hj⟩⟩⟩ (by show _+1≤_; omega) w hw) (λv M hM=>?_)
 obtain ⟨r,hr,rfl⟩:=hM
 refine Sy.nil ?_
 have q:=(Wrote.must ok bad b).then_ (Wrote.raw [CQ z] (bad || !ok) b (k:=1) (Nat.le_refl _))
 rw [Bool.and_true] at q
 exact Sy.retT0 J (WB gw (bad || !ok) r R) (λ_ h=>Bo h) (λ_=>⟨r,bad || !ok,b++[CQ z],q,hr,rfl⟩)
end Wr
end
end Go.Proofs.YtdbcombmmnihbaaGreat
