/-
  Texts of ours, put together: WirBD, WirCE, WirCF, CrvY, RefNumber, SymX, CrvE, CrvZ, WirDH, WirDI, WirEC, WirDJ, WirCG, WirDK, WirDL, WirED, WirFA, ScSpec.
-/
import Derived.Test.YtdbcombmmnihbaaGreatWB6
set_option linter.unusedVariables false
set_option linter.unusedSimpArgs false
set_option maxRecDepth 100000
set_option maxHeartbeats 80000000
namespace Go.Proofs.YtdbcombmmnihbaaGreat
section
namespace Wr
open Go.RowKit Sy
theorem K9 {l:List Byt} (h:∀ o∈l,o.length=32):(l.flatMap λk=>k).length=32*l.length:=by
 induction l with
 | nil=>rfl
 | cons o l ih=>rw [List.flatMap_cons,List.length_append,h o (List.mem_cons_self ..),ih (λx hx=>h x (List.mem_cons_of_mem _ hx)),List.length_cons]; omega
theorem PT (l:List Byt):(l.map λ_=>32).sum=32*l.length:=by
 induction l with
 | nil=>rfl
 | cons o l ih=>rw [List.map_cons,List.sum_cons,ih,List.length_cons]; omega
theorem QB (w0:Base) (gw:Nat) (bad:Bool) (s:Slc) (R:AA) (b:Byt) (t:MPa) (v:Value) (h2:LstR (rdW w0.world) 32 Bj v t.keys) (hb:BS s b) (hlo:t.keys.length≤1000000000000) (hl:b.length+Gd t≤70368744170000) (w:World) (hw:St w0 w (WB gw bad s R)) :
  AL 146 #[ptr gw,.agg #[.int .i64 t.t,v]] w (AQ w0 (Wd gw R (Kr t) (HW t) (Gd t) bad b)):=by
 have hcl:∀ o∈t.keys,o.length=32:=Sh (q:=λo:Byt=>o.length=32) h2 (λcs x h=>h.2)
 obtain ⟨A,n,cp,rfl,k2,k3,k4,k5⟩:=h2
 have hwt:Gd t=1+(9+32*t.keys.length):=by unfold Gd; rw [PT]
 rw [hwt] at hl
 refine Sy.enterT (args:=[ptr gw,.agg #[.int .i64 t.t,.slice A n cp]]) hw Tryz.func146 J kL<|sC<|sM 40 #[.int .i64 t.t,.slice A n cp] (λg3=>?_)
 refine Sy.permS (M:=WB gw bad s (R++[(g3,40,#[.int .i64 t.t,.slice A n cp])])) (List.Perm.of_eq (by simp only [List.append_assoc])) ?_
 have c0:rdC w0.inn [(g3,40,#[.int .i64 t.t,.slice A n cp])] g3 0 (.int .i64 t.t):=.inr ⟨_,_,List.mem_singleton.2 J,rfl⟩
 have c1:rdC w0.inn [(g3,40,#[.int .i64 t.t,.slice A n cp])] g3 1 (.slice A n cp):=.inr ⟨_,_,List.mem_singleton.2 J,rfl⟩
 refine sA<|sp J<|sP (pT g3 0)<|sS (.int .i64 t.t) (AK (R:=[(g3,40,#[.int .i64 t.t,.slice A n cp])]) c0 (λy hy=>Aj (List.mem_append_right R hy)) J uy3)<|Sy.callT (λw hw=>Dh w0.inn gw bad s (R++[(g3,40,#[.int .i64 t.t,.slice A n cp])]) b 0 255 t.t hb om w hw) (λv M hM=>?_)
 obtain ⟨r1,bad1,b1,q1,q2,rfl⟩:=hM
 have hl1:=q1.len
 refine sA<|sp J<|sP (pT g3 1)<|sS (.slice A n cp) (AK (R:=[(g3,40,#[.int .i64 t.t,.slice A n cp])]) c1 (λy hy=>Aj (List.mem_append_right R hy)) J FO)<|sP (.int .i64 (n:Int))<|Sy.callT (λw hw=>C_ w0.inn gw bad1 r1 (R++[(g3,40,#[.int .i64 t.t,.slice A n cp])]) b1 n 16 om dZ q2 om w hw) (λv M hM=>?_)
 obtain ⟨s2,bad2,b2,q3,q4,rfl⟩:=hM
 have hl2:=q3.len
 refine sA<|sP (.int .i64 0)<|sG<|Sy.block<|Sy.loopT (Y:=Slc) n (λi _=>[(0,ptr gw),(3,ptr g3),(4,.int .i64 (i:Int))]) (λ_ y=>WB gw bad2 y (R++[(g3,40,#[.int .i64 t.t,.slice A n cp])])) (λi y=>BS y (b2++(t.keys.take i).flatMap λk=>k)) s2 (by show BS s2 (b2++[]); rw [List.append_nil]; exact q4) ac3 (λ_ h=>h) (λi y hi hy=>?_)
 refine Sy.seq<|sC ?_
 obtain ⟨b3,hb3⟩:=xE (decide (i<n))
 refine sp J<|sP (pT g3 1)<|sS (.slice A n cp) (AK (R:=[(g3,40,#[.int .i64 t.t,.slice A n cp])]) c1 (λy hy=>Aj (List.mem_append_right R hy)) J FO)<|sP (.int .i64 (n:Int))<|sS (.bool b3) (qls J J J hb3)<|sG ?_
 have htl:((t.keys.take i).flatMap λk=>k).length≤32*i:=by
  rw [K9 (λo ho=>hcl o (List.mem_of_mem_take ho)),List.length_take]; omega
 cases b3
 case' false =>
  have l3:=dN hb3
  obtain rfl:i=n:=om
  rw [List.take_of_length_le om] at hy
  refine sU<|Sy.exit<|Sy.then_exit<|Sy.then_exit<|Sy.in_exit ?_
  have q:=q1.then_ (q3.then_ (Wrote.raw (t.keys.flatMap λk=>k) bad2 b2 (k:=32*t.keys.length) (by rw [K9 hcl]; exact Nat.le_refl _)))
  rw [Bool.and_true, ← k2] at q
  rw [hwt]
  exact Sy.retT0 J (WB gw bad2 y R) (λ_ h=>Bo h) (λ_=>⟨y,bad2,_,q,hy,rfl⟩)
 have l3:=dY hb3
 obtain ⟨x,hx⟩:∃ x,t.keys[i]? = some x:=⟨_,List.getElem?_eq_getElem om⟩
 obtain ⟨g,o,hA,hq⟩:=k5 (by intro e; rw [e] at hx; cases hx)
 obtain ⟨cs,_,_,⟨rfl,x3⟩,hX⟩:=hq i x hx
 have d1:XAt (rdC w0.inn []) g (o+i*32) (x.map bv):=λj u hu=>.inl (hX j u hu)
 have m1:(x.map bv).length=32:=by rw [List.length_map,x3]
 have hyl:(b2++(t.keys.take i).flatMap λk=>k).length≤b2.length+32*i:=by rw [List.length_append]; omega
 refine sT<|Sy.skip<|Sy.then_<|Sy.seq<|Sy.block<|Sy.region<|sp J<|sP (pT g3 1)<|sS (.slice A n cp) (AK (R:=[(g3,40,#[.int .i64 t.t,.slice A n cp])]) c1 (λy hy=>Aj (List.mem_append_right R hy)) J FO)<|sp J<|sS (.pointer (some ⟨g,o+i*32,none⟩)) (Quiet.pure (BJ 38 _ _ _ A g o n cp i 32 .i64 hA J J J FO kF l3))<|sS (.agg (x.map bv).toArray) (BQ (R:=[]) d1 (λy hy=>by cases hy) m1 J FV)<|Sy.callT (λw hw=>EL w0.inn gw bad2 y (R++[(g3,40,#[.int .i64 t.t,.slice A n cp])]) _ x x3 hy om w hw) (λv M hM=>?_)
 obtain ⟨r5,hr5,rfl⟩:=hM
 refine Sy.nil<|Sy.in_<|Sy.then_<|Sy.region<|sp J<|sS (iZ (i+1)) (qad J J J)<|sp J<|Sy.nil ?_
 have e:b2++((t.keys.take (i+1)).flatMap λk=>k)=b2++((t.keys.take i).flatMap λk=>k)++x:=by
  rw [List.take_add_one,hx,List.flatMap_append]
  show b2++(((t.keys.take i).flatMap λk=>k)++(x++[]))=_
  simp only [List.append_assoc,List.append_nil]
 exact Sy.againT r5 l3 (by show BS r5 (b2++((t.keys.take (i+1)).flatMap λk=>k)); rw [e]; exact hr5) ac3 (λw h=>h)
theorem QC (w0:Base) (gr:Nat) (sl:Value) (b:Byt) (at_ e:Nat) (R:AA) (hat:at_≤b.length) (he:e≤200) (hl:b.length≤70368744177664) (hv:BytR (rdW w0.world) sl b) (w:World) (hw:St w0 w (RB gr sl at_ e R)) :
  AL 147 #[ptr gr] w (AQ w0 (Rfd Pw (H9 2 Kc) gr sl b R at_ e)):=by
 refine Sy.enterT (args:=[ptr gr]) hw Tryz.func147 J kL<|sC<|sM 40 #[.int .i64 0,.slice none 0 0] (λg2=>?_)
 refine Sy.movT (pre:=[(gr,166,rrC sl at_ e)]) (T:=R)<|sA<|sM 40 #[.int .i64 0,.slice none 0 0] (λg3=>?_)
 refine Sy.movT (pre:=[(gr,166,rrC sl at_ e),(g2,40,#[.int .i64 0,.slice none 0 0])]) (T:=R)<|sA<|sp J<|Sy.callT (λw hw=>CX 0 255 w0.inn gr sl b at_ e ((g2,40,#[.int .i64 0,.slice none 0 0])::(g3,40,#[.int .i64 0,.slice none 0 0])::R) hat he hl hv w hw) (λu M hM=>?_)
 obtain ⟨x0,a1,e1,N1,p1,⟨rfl,rfl⟩,p3,p4,rfl⟩:=hM
 rw [Mr] at p1
 rw [List.append_nil]
 refine sP (pT g3 0)<|sw 2 J #[.int .i64 x0,.slice none 0 0] (wO 0 3 (.int .i64 x0) rfl)<|sA<|sp J<|Sy.callT (λw hw=>C' w0.inn gr sl b a1 e1 16 ((g2,40,#[.int .i64 0,.slice none 0 0])::(g3,40,#[.int .i64 x0,.slice none 0 0])::R) p3 p4 dZ hl hv w hw) (λu M hM=>?_)
 obtain ⟨n,a2,e2,N2,q1,⟨rfl,q2,rfl⟩,q3,q4,rfl⟩:=hM
 rw [List.append_nil]
 refine sp J<|sG<|Sy.seq<|sC<|sP (.int .i64 0)<|sG<|Sy.block<|Sy.loopT (Y:=RLst Byt) n (λi _=>[(0,ptr gr),(2,ptr g2),(3,ptr g3),(4,.int .i64 (n:Int)),(5,.int .i64 (i:Int))]) (λ_ y=>[(gr,166,rrC sl y.at_ y.e),(g2,40,#[.int .i64 0,.slice none 0 0]),(g3,40,#[.int .i64 x0,y.r.v])]++(y.r.bl++R)) (λi y=>After (Bz (An 32) i) ⟨b.drop a2,e2⟩ y.xs ⟨b.drop y.at_,y.e⟩∧y.at_≤b.length∧y.e≤200∧y.xs.length=i∧RowsOk 210 32 Bj y.r [] y.xs) ⟨a2,e2,[],nilS⟩ ⟨After.ret [] _,q3,q4,rfl,RowsOk.nil⟩ ac5 (λ_ h=>h) (λi y hi hy=>?_)
 obtain ⟨a,f,xs,r⟩:=y
 obtain ⟨y1,y2,y3,y4,y5⟩:=hy
 dsimp only at y1 y2 y3 y4 y5 ⊢
 obtain ⟨b3,hb3⟩:=xE (decide (i<n∧f=0))
 refine Sy.seq<|Sy.seq<|DN [(0,ptr gr),(2,ptr g2),(3,ptr g3),(4,.int .i64 (n:Int)),(5,.int .i64 (i:Int)),(17,.bool b3)] ([(gr,166,rrC sl a f),(g2,40,#[.int .i64 0,.slice none 0 0]),(g3,40,#[.int .i64 x0,r.v])]++(r.bl++R)) ?_ ?_
 ·refine Sy.region ?_
  obtain ⟨b1,hb1⟩:=xE (decide (i<n))
  refine sp J<|sp J<|sS (.bool b1) (qls J J J hb1)<|sp J ?_
  cases b1
  ·obtain rfl:b3=false:=by rw [hb3]; exact decide_eq_false (λh=>of_decide_eq_false hb1.symm h.1)
   refine sN<|sN<|sP (.bool false)<|Sy.nil ?_
   exact A_ ac6 (λ_ h=>h)
  ·obtain ⟨b2,hb2⟩:=xE (decide (f=0))
   obtain rfl:b3=b2:=by rw [hb3,hb2]; exact decide_eq_decide.2 ⟨λh=>h.2,λh=>⟨of_decide_eq_true hb1.symm,h⟩⟩
   refine sp J<|sS (.bool b3) (qg (λw hw=>by rw [hb2]; exact Dt w0.inn gr sl a f (List.mem_cons_self ..) w hw))<|sP (.bool b3)<|Sy.nil ?_
   exact A_ ac6 (λ_ h=>h)
 refine Sy.then_ ?_
 cases b3
 case' false =>
  have l3:=dN hb3
  have hA:After (Bz (An 32) n) ⟨b.drop a2,e2⟩ xs ⟨b.drop a,f⟩:=by
   by_cases h:i<n
   ·exact y1.stop (λh0=>l3 ⟨h,h0⟩) hi
   ·obtain rfl:i=n:=om
    exact y1
  have hrc:r.v.oneCell'=true:=by obtain ⟨ys,h1,_⟩:=y5; exact h1.cells.2
  have hon:∀ u∈[Value.int .i64 x0,r.v],u.oneCell'=true:=λu hu=>by
   rcases List.mem_cons.1 hu with rfl | hu
   ·rfl
   ·rw [List.mem_singleton.1 hu]; exact hrc
  refine sU<|Sy.exit<|Sy.then_exit<|Sy.then_exit<|Sy.in_exit<|Sy.then_<|sC<|sS (.agg #[.int .i64 x0,r.v]) (qk 2 0 2 J J Ro)<|sw 1 J #[.int .i64 x0,r.v] (Writes.row 40 [.int .i64 x0,r.v] 2 _ _ J kR kR kR J kZ hon)<|sG<|Sy.ret ?_
  exact Sy.retT1 (RB gr sl a f (R++r.bl)) J (.inl (Sy.Res.cell (ty':=40) g2 1 #[.int .i64 x0,r.v] _ kZ J Ro J kZ J)) (λ_ h=>Sy.St.parts (L:=[(gr,166,rrC sl a f),(g2,40,#[.int .i64 x0,r.v]),(g3,40,#[.int .i64 x0,r.v])]++(r.bl++R)) (ls:=[[(gr,166,rrC sl a f)],[(g2,40,#[.int .i64 x0,r.v])],[(g3,40,#[.int .i64 x0,r.v])],r.bl,R]) (ms:=[[(gr,166,rrC sl a f)],R,r.bl]) [[(g2,40,#[.int .i64 x0,r.v])],[(g3,40,#[.int .i64 x0,r.v])]] [0,4,3,1,2] kZ (by rfl) (by simp) (by simp) h) ⟨⟨x0,xs⟩,a,f,r.bl,p1.bind ((q1.bind hA).bind (After.ret _ _)),⟨_,rfl,rfl,hon,⟨r.v,rfl,RowsOk.lst (rep:=Bj) (N:=[]) Co y5⟩⟩,y2,y3,rfl⟩
 obtain ⟨l1,l2⟩:i<n∧f=0:=of_decide_eq_true hb3.symm
 obtain ⟨ys,t1,t2,t3⟩:=y5
 refine sT<|Sy.skip<|Sy.then_<|Sy.seq<|Sy.block<|Sy.regionD (λj=>j == 3 || j == 5 || j == 7) kR<|sb 0 J (pT g3 1)<|sa 2 J J<|Sy.joinG (T:=Byt×Nat×Nat×Nat) (λy=>[(0,ptr gr),(2,ptr g2),(3,ptr g3),(4,.int .i64 (n:Int)),(5,.int .i64 (i:Int)),(21,r.v),(23,.agg (y.1.map bv).toArray),(24,.slice (some ⟨y.2.2.2,0,none⟩) 1 1)]) (λy=>[(gr,166,rrC sl y.2.1 y.2.2.1),(g2,40,#[.int .i64 0,.slice none 0 0]),(g3,40,#[.int .i64 x0,r.v]),(y.2.2.2,210,(y.1.map bv).toArray)]++(r.bl++R)) (λy=>After (An 32) ⟨b.drop a,f⟩ y.1 ⟨b.drop y.2.1,y.2.2.1⟩∧y.1.length=32∧y.2.1≤b.length∧y.2.2.1≤200) 3 #[true,true,true,true,true,false,false,false] (λy hy=>?_) (λk=>?_)
 case refine_2 =>
  refine Sy.anyOf [1,3] kZ dZ (Sy.each2 ?_ ?_)
  ·refine Sy.oneQuiet J kZ r.v (qc 2 1 J J FO) ?_
   refine Sy.soleD 3 J (λQ2 hq2=>?_)
   refine Sy.callT (λw hw=>Ca w0.inn gr sl b a f ((g2,40,#[.int .i64 0,.slice none 0 0])::(g3,40,#[.int .i64 x0,r.v])::(r.bl++R)) y2 y3 hl hv w hw) (λu M hM=>?_)
   obtain ⟨x2,a4,e4,N4,s1,⟨rfl,s2,rfl⟩,s3,s4,rfl⟩:=hM
   rw [List.append_nil ((g2,40,#[.int .i64 0,.slice none 0 0])::(g3,40,#[.int .i64 x0,r.v])::(r.bl++R))]
   refine hq2 _ _<|Sy.makeD 4 J kR kR 210 (x2.map bv).toArray (λg=>.slice (pA g) 1 1) (Makes.one 38 210 _ _ 32 _ (x2.map bv) rfl kR FO E2 J J (by rw [List.length_map,s2]) dZ dZ) (λg7=>?_)
   exact C4 k (x2,a4,e4,g7) ⟨s1,s2,s3,s4⟩ rfl ac8 (Sy.mov_perm (pre:=[(gr,166,rrC sl a4 e4),(g2,40,#[.int .i64 0,.slice none 0 0]),(g3,40,#[.int .i64 x0,r.v])]) (T:=r.bl++R))
  ·refine Oe J kZ J (λQ2 hq2=>?_)
   refine Sy.callT (λw hw=>Ca w0.inn gr sl b a f ((g2,40,#[.int .i64 0,.slice none 0 0])::(g3,40,#[.int .i64 x0,r.v])::(r.bl++R)) y2 y3 hl hv w hw) (λu M hM=>?_)
   obtain ⟨x2,a4,e4,N4,s1,⟨rfl,s2,rfl⟩,s3,s4,rfl⟩:=hM
   rw [List.append_nil ((g2,40,#[.int .i64 0,.slice none 0 0])::(g3,40,#[.int .i64 x0,r.v])::(r.bl++R))]
   refine hq2 _ _<|Sy.anyOf [1,4] kZ dZ (Sy.each2 ?_ ?_)
   ·refine Sy.oneQuiet J kZ r.v (qc 2 1 J J FO) ?_
    refine Sy.makeD 4 J kR kR 210 (x2.map bv).toArray (λg=>.slice (pA g) 1 1) (Makes.one 38 210 _ _ 32 _ (x2.map bv) rfl kR FO E2 J J (by rw [List.length_map,s2]) dZ dZ) (λg7=>?_)
    exact C4 k (x2,a4,e4,g7) ⟨s1,s2,s3,s4⟩ rfl ac8 (Sy.mov_perm (pre:=[(gr,166,rrC sl a4 e4),(g2,40,#[.int .i64 0,.slice none 0 0]),(g3,40,#[.int .i64 x0,r.v])]) (T:=r.bl++R))
   ·refine Sy.oneMake J kZ 210 (x2.map bv).toArray (λg=>.slice (pA g) 1 1) (Makes.one 38 210 _ _ 32 _ (x2.map bv) rfl kR FO E2 J J (by rw [List.length_map,s2]) dZ dZ) (λg7=>?_)
    refine Sy.anyOf [1] kZ dZ (Sy.each1 ?_)
    refine Sy.oneQuiet J kZ r.v (qc 2 1 J J FO) ?_
    exact C4 k (x2,a4,e4,g7) ⟨s1,s2,s3,s4⟩ rfl ac8 (Sy.mov_perm (pre:=[(gr,166,rrC sl a4 e4),(g2,40,#[.int .i64 0,.slice none 0 0]),(g3,40,#[.int .i64 x0,r.v])]) (T:=r.bl++R))
 obtain ⟨x2,a4,e4,g7⟩:=y
 obtain ⟨s1,s2,s3,s4⟩:=hy
 dsimp only at s1 s2 s3 s4 ⊢
 have m2:(x2.map bv).length=32:=by rw [List.length_map,s2]
 refine Sy.soleD 5 J (λQ2 hq2=>?_)
 refine Sy.appendR (pre:=[(gr,166,rrC sl a4 e4),(g2,40,#[.int .i64 0,.slice none 0 0]),(g3,40,#[.int .i64 x0,r.v]),(g7,210,(x2.map bv).toArray)]) (T:=R) kR 38 210 _ _ 32 32 FO E2 J J J J dZ _ _ J t1 kR (x2.map bv) m2 (Ho x2) 3 g7 210 kR kR om (by simp only [maxLen]; omega) (λr' hr'=>?_)
 refine hq2 _ _<|sb 6 J (pT g3 1)<|sx 7 J 2 J #[.int .i64 x0,r'.v] (Writes.one 1 38 r'.v _ _ J kR kR kR hr'.cells.1 hr'.cells.2 (Nat.lt_succ_self 1) kR)<|sE<|Sy.in_<|Sy.then_<|Sy.region<|sp J<|sS (iZ (i+1)) (qad J J J)<|sp J<|Sy.nil ?_
 exact Sy.againT ⟨a4,e4,xs++[x2],r'⟩ l1 ⟨y1.snoc s1,s3,s4,by show (xs++[_]).length=_; rw [List.length_append,y4]; rfl,RowsOk.add (rep:=Bj) t2 t3 hr' ⟨rfl,s2⟩⟩ ac5 (λw h=>Sy.St.parts (L:=[(gr,166,rrC sl a4 e4),(g2,40,#[.int .i64 0,.slice none 0 0]),(g3,40,#[.int .i64 x0,r'.v]),(g7,210,(x2.map bv).toArray)]++(r'.bl++R)) (ls:=[[(gr,166,rrC sl a4 e4),(g2,40,#[.int .i64 0,.slice none 0 0]),(g3,40,#[.int .i64 x0,r'.v])],[(g7,210,(x2.map bv).toArray)],r'.bl++R]) (ms:=[[(gr,166,rrC sl a4 e4),(g2,40,#[.int .i64 0,.slice none 0 0]),(g3,40,#[.int .i64 x0,r'.v])],r'.bl++R]) [[(g7,210,(x2.map bv).toArray)]] [0,2,1] kZ (by rfl) (by simp) (by simp) h)
theorem ByN.nil:ByN [] (.slice none 0 0) []:=⟨none,0,0,rfl,BS.nil⟩
theorem OE (w:World) (v:Value) (x:Byt) (hv:BytR (rdW w) v x) (hl:x.length≤70368744170000):AL 177 #[v] w (BD w (ByN (Ap x.length++x))):=by
 have hv0:=hv
 obtain ⟨A,n,cp,rfl,h2,h3,h4,h5⟩:=hv
 have hn9:=Dc x.length
 refine Sy.enter (args:=[.slice A n cp]) Tryz.func177 J kL<|sC<|sP (.slice none 0 0)<|sA<|sp J<|sP (.int .i64 (n:Int))<|sS (uZ (n:Int)) (Quiet.pure (λw=>DG w _ _ _ n om J J))<|Sy.callN kR 117 #[uZ (n:Int)] kF _ (λw' _=>Db w' n om) (λu M hM=>?_)
 obtain ⟨A1,n1,c1,rfl,hs⟩:=hM
 refine sp J<|sA<|sp J<|sp J<|Sy.permS (M:=[]++(M++[])) (List.Perm.of_eq (by simp))<|Sy.appendM (pre:=[]) (r:=⟨.slice A1 n1 c1,M⟩) (T:=[]) kR 27 5 _ _ 1 1 Aw Cu.info_u8 J J J J dZ _ _ J hs kR (D5 x) (DO x) A n cp (by rw [As,h2]) h3 kR (λr=>BytR.from (w0:=Base.of w) (R:=[]) (hv0.le EF) (λy hy=>by cases hy)) (by rw [As, ← h2]; omega) (by rw [As, ← h2]; simp only [maxLen]; omega) (λr hr=>?_)
 have hr':BS r (Ap x.length++x):=by
  show r.Is 5 1 _
  rw [FK,h2]
  exact hr
 refine sp J<|sA<|sp J<|sp J<|sG<|Sy.ret ?_
 exact Sy.retGM r.bl J (.inl (show _=_ by kernel_rfl)) (λ_ h=>h.less (List.sublist_append_left _ _)) hr'.as
def gtN (b:Byt) (at_ e most:Nat):Nat×Nat×Byt:=if (gvN b at_ e most).2.1≠0 then ((gvN b at_ e most).1,(gvN b at_ e most).2.1,[]) else if b.length - (gvN b at_ e most).1<(gvN b at_ e most).2.2 then (at_,110,[]) else ((gvN b at_ e most).1+(gvN b at_ e most).2.2,0,(b.drop (gvN b at_ e most).1).take (gvN b at_ e most).2.2)
theorem Ov (b:Byt) (at_ e most:Nat) (h:at_≤b.length) (he:e≤200):After (Bq most) ⟨b.drop at_,e⟩ (gtN b at_ e most).2.2 ⟨b.drop (gtN b at_ e most).1,(gtN b at_ e most).2.1⟩∧(gtN b at_ e most).1≤b.length∧(gtN b at_ e most).2.1≤200:=by
 obtain ⟨q1,q2,q3,q4⟩:=Gy b at_ e most h he
 unfold gtN
 obtain ⟨f,hf⟩:=xE (gvN b at_ e most)
 rw [← hf] at q1 q2 q3 q4 ⊢
 by_cases h1:f.2.1≠0
 ·rw [if_pos h1]
  refine ⟨q1.bind (q:=An) ⟨λ_=>h1,λy r h0 _=>(h1 h0).elim,λh0 _=>(h1 h0).elim⟩,q2,q3⟩
 ·have h0:f.2.1=0:=Decidable.of_not_not h1
  rw [if_neg h1]
  by_cases h2:b.length - f.1<f.2.2
  ·rw [if_pos h2]
   refine ⟨q1.bind (q:=An) ⟨λ_=>(show (110:Nat)≠0 by decide),λy r _ hp=>?_,λ_ _=>(show (110:Nat)≠0 by decide)⟩,h,by show (110:Nat)≤200; decide⟩
   unfold An at hp
   rw [if_neg (by show ¬ f.2.2≤(b.drop f.1).length; rw [List.length_drop]; omega)] at hp
   cases hp
  ·rw [if_neg h2]
   refine ⟨q1.bind (q:=An) ⟨λh=>(h h0).elim,λy r _ hp=>?_,λ_ hp=>?_⟩,by show f.1+f.2.2≤_; omega,Nat.zero_le _⟩
   ·unfold An at hp
    rw [if_pos (by show f.2.2≤(b.drop f.1).length; rw [List.length_drop]; omega)] at hp
    cases hp
    exact ⟨rfl,by rw [List.drop_drop]⟩
   ·unfold An at hp
    rw [if_pos (by show f.2.2≤(b.drop f.1).length; rw [List.length_drop]; omega)] at hp
    cases hp
theorem J' (w:World) (sl:Value) (b:Byt) (at_ e most:Nat) (hat:at_≤b.length) (he:e≤200) (hmo:most<1000000) (hl:b.length≤70368744177664) (hv:BytR (rdW w) sl b) :
  AL 181 #[rrV sl at_ e,.int .i64 (most:Int)] w (BD w (λv M=>∃ u,v=.tuple #[rrV sl (gtN b at_ e most).1 (gtN b at_ e most).2.1,u]∧ByN (gtN b at_ e most).2.2 u M)):=by
 have hv0:=hv
 obtain ⟨A,m,cp,rfl,h2,h3,h4,h5⟩:=hv
 obtain ⟨q1,q2,q3,q4⟩:=Gy b at_ e most hat he
 unfold gtN
 obtain ⟨f,hf⟩:=xE (gvN b at_ e most)
 rw [← hf] at q1 q2 q3 q4 ⊢
 obtain ⟨T,hT⟩:=xE ((if f.2.1≠0 then (f.1,f.2.1,([]:Byt)) else if b.length - f.1<f.2.2 then (at_,110,[]) else (f.1+f.2.2,0,(b.drop f.1).take f.2.2)))
 rw [← hT]
 refine Sy.enter (args:=[rrV (.slice A m cp) at_ e,.int .i64 (most:Int)]) Tryz.func181 J kL<|sC<|sM 164 (rrC (.slice A m cp) at_ e) (λg2=>?_)
 refine sM 164 (rrC (.slice none 0 0) 0 0) (λg4=>?_)
 refine sP (.slice none 0 0)<|sA<|sS (rrV (.slice A m cp) at_ e) (qk 0 0 3 J J Bd)<|sp J<|sS (uZ (most:Int)) (Quiet.pure (λw=>DG w _ _ _ most om J J))<|sp J<|sS (.bool false) (Quiet.pure (AE .lss _ _ _ .i64 _ _ _ J J J (DF _ _ _ _ _ (decide_eq_false om))))<|sS (.tuple #[rrV (.slice A m cp) f.1 f.2.1,uZ ((f.2.2:Nat):Int)]) (qg (λw' hw=>by rw [hf]; exact HN (e:=e) w' (.slice A m cp) b at_ most hat om hl (hv0.at hw)))<|sp J<|sp J<|sp J<|sM 164 (rrC (.slice none 0 0) 0 0) (λg6=>?_)
 refine sw 2 J (rrC (.slice A m cp) f.1 f.2.1) (wA J)<|sp J<|sG<|Sy.seq<|sC ?_
 obtain ⟨b1,hb1⟩:=xE (decide (f.2.1≠0))
 refine sP (pT g6 2)<|sS (.int .i64 (f.2.1:Int)) (qc 2 2 J J En)<|sS (.bool b1) (qne J J J hb1)<|sG ?_
 cases b1
 case' true =>
  have l1:=dY hb1
  rw [if_pos l1] at hT
  subst hT
  refine sT<|sC<|sS (rrV (.slice A m cp) f.1 f.2.1) (qk 2 0 3 J J Bd)<|sw 1 J (rrC (.slice A m cp) f.1 f.2.1) (wA J)<|sP (.slice none 0 0)<|sG<|Sy.ret<|Sy.then_ret ?_
  exact Sy.retGM2 [] rfl (.inl (Sy.Res.cell (ty':=164) g4 1 (rrC (.slice A m cp) f.1 f.2.1) _ kZ J Bd J kZ J)) (.inl (show _=_ by kernel_rfl)) (λ_ h=>h.none) ⟨_,rfl,ByN.nil⟩
 have l1:=dN hb1
 have l0:f.2.1=0:=Decidable.of_not_not l1
 rw [if_neg l1] at hT
 refine sU<|Sy.skip<|Sy.then_<|Sy.seq<|sC ?_
 obtain ⟨b2,hb2⟩:=xE (decide (m - f.1<f.2.2))
 refine sp J<|sP (pT g6 0)<|sS (.slice A m cp) (qc 2 0 J J Aw)<|sP (.int .i64 (m:Int))<|sP (pT g6 1)<|sS (.int .i64 (f.1:Int)) (qc 2 1 J J uy3)<|sS (iZ (m - f.1)) (qsb J J J)<|sS (uZ ((m - f.1:Nat):Int)) (Quiet.pure (λw=>DG w _ _ _ (m - f.1) om J J))<|sS (.bool b2) (Quiet.pure (AE .gtr _ _ _ .u64 _ _ _ J J J (Dx _ _ _ _ _ (by rw [hb2]; exact decide_eq_decide.2 om))))<|sG ?_
 cases b2
 case' true =>
  have l2:=dY hb2
  rw [if_pos om] at hT
  subst hT
  refine sT<|sC<|sP (pT g2 2)<|sw 0 J (rrC (.slice A m cp) at_ 110) (wO 2 28 (.int .i64 110) rfl)<|sA<|sS (rrV (.slice A m cp) at_ 110) (qk 0 0 3 J J Bd)<|sw 1 J (rrC (.slice A m cp) at_ 110) (wA J)<|sP (.slice none 0 0)<|sG<|Sy.ret<|Sy.then_ret ?_
  exact Sy.retGM2 [] rfl (.inl (Sy.Res.cell (ty':=164) g4 1 (rrC (.slice A m cp) at_ 110) _ kZ J Bd J kZ J)) (.inl (show _=_ by kernel_rfl)) (λ_ h=>h.none) ⟨_,rfl,ByN.nil⟩
 have l2:=dN hb2
 rw [if_neg om] at hT
 subst hT
 have er:BU b f.1 f.2.1 f.2.2=(f.1+f.2.2,0,(b.drop f.1).take f.2.2):=by
  unfold BU
  rw [if_neg l1,if_neg om]
 refine sU<|Sy.skip<|sB<|sS (rrV (.slice A m cp) f.1 f.2.1) (qk 2 0 3 J J Bd)<|sp J<|sS (iZ f.2.2) (Quiet.pure (λw=>GX w _ _ _ f.2.2 om J J))<|Sy.callN kR 149 #[rrV (.slice A m cp) f.1 f.2.1,iZ f.2.2] kF _ (λw' hw=>IE w' (.slice A m cp) b f.1 f.2.1 f.2.2 q2 om hl (hv0.at hw)) (λu M hM=>?_)
 rw [er] at hM
 obtain ⟨u,rfl,hu⟩:=hM
 have hub:=hu.byt
 obtain ⟨A2,n2,c2,rfl,_⟩:=hub
 refine sp J<|sp J<|sw 1 J (rrC (.slice A m cp) (f.1+f.2.2) 0) (wA J)<|sp J<|sG<|Sy.ret ?_
 exact Sy.retGM2 M J (.inl (Sy.Res.cell (ty':=164) g4 1 (rrC (.slice A m cp) (f.1+f.2.2) 0) _ kZ J Bd J kZ J)) (.inl (show _=_ by kernel_rfl)) (λ_ h=>h.less (List.sublist_append_right [(g2,164,rrC (.slice A m cp) at_ e),(g4,164,rrC (.slice A m cp) (f.1+f.2.2) 0),(g6,164,rrC (.slice A m cp) f.1 f.2.1)] M)) ⟨_,rfl,hu⟩
theorem CK (most:Nat) (hmo:most<1000000) (w0:Base) (gr:Nat) (sl:Value) (b:Byt) (at_ e:Nat) (R:AA) (hat:at_≤b.length) (he:e≤200) (hl:b.length≤70368744177664) (hv:BytR (rdW w0.world) sl b) (w:World) (hw:St w0 w (RB gr sl at_ e R)) :
  AL 130 #[ptr gr,.int .i64 (most:Int)] w (AQ w0 (Rfd (Bq most) (λx v N=>ByN x v N) gr sl b R at_ e)):=by
 obtain ⟨q1,q2,q3⟩:=Ov b at_ e most hat he
 have hv0:=hv
 obtain ⟨A,m,cp,rfl,h2,h3,h4,h5⟩:=hv
 obtain ⟨f,hf⟩:=xE (gtN b at_ e most)
 rw [← hf] at q1 q2 q3
 refine Sy.enterT (args:=[ptr gr,.int .i64 (most:Int)]) hw Tryz.func130 J kL<|sC<|sP (.slice none 0 0)<|sA<|sp J<|sp J<|sP (pT gr 0)<|sS (rrV (.slice A m cp) at_ e) (qk 0 0 3 J J Bd)<|sp J<|Sy.callN kR 181 #[rrV (.slice A m cp) at_ e,.int .i64 (most:Int)] kF _ (λw' hw=>J' w' (.slice A m cp) b at_ e most hat he hmo hl (hv0.le (λg o u hu=>Ad (w0:=w0.inn) (R:=[]) hw (λ_ h=>by cases h) g o u (.inl hu)))) (λu M hM=>?_)
 rw [← hf] at hM
 obtain ⟨u,rfl,hu⟩:=hM
 have hub:=hu.byt
 obtain ⟨A2,n2,c2,rfl,k2,k3,k4,k5⟩:=hub
 refine sp J<|sp J<|sp J<|sM 164 (rrC (.slice none 0 0) 0 0) (λg5=>?_)
 refine Sy.movT (pre:=[(gr,166,rrC (.slice A m cp) at_ e)]) (T:=R++M)<|sw 1 J (rrC (.slice A m cp) f.1 f.2.1) (wA J)<|sp J<|sA<|sp J<|sS (rrV (.slice A m cp) f.1 f.2.1) (qk 1 0 3 J J Bd)<|sp J<|sP (pT gr 0)<|sw 0 J (rrC (.slice A m cp) f.1 f.2.1) (wA J)<|sA<|sp J<|sp J<|sG<|Sy.ret ?_
 exact Sy.retT1 (RB gr (.slice A m cp) f.1 f.2.1 (R++M)) J (.inl (show _=_ by kernel_rfl)) (λ_ h=>NP h) ⟨_,_,_,M,q1,hu,q2,q3,rfl⟩
theorem Cb (w0:Base) (gw:Nat) (bad:Bool) (s:Slc) (R:AA) (b:Byt) (v:Value) (x:Byt) (most:Nat) (hmo:most<1000000) (hb:BS s b) (hx:BytR (rdW w0.world) v x) (hl:b.length+(9+x.length)≤70368744170000) (w:World) (hw:St w0 w (WB gw bad s R)) :
  AL 122 #[ptr gw,v,.int .i64 (most:Int)] w (AQ w0 (Wd gw R (decide (x.length≤most)) (Ap x.length++x) (9+x.length) bad b)):=by
 have hx0:=hx
 obtain ⟨A,n,cp,rfl,h2,h3,h4,h5⟩:=hx
 have hn9:=Dc x.length
 obtain ⟨ok,hok⟩:=xE (decide (x.length≤most))
 rw [← hok]
 rw [h2] at hok
 refine Sy.enterT (args:=[ptr gw,.slice A n cp,.int .i64 (most:Int)]) hw Tryz.func122 J kL<|sC<|sp J<|sp J<|sP (.int .i64 (n:Int))<|sp J<|sS (.bool ok) (qle J J J hok)<|Sy.callT (λw hw=>A0 w0.inn gw bad ok s R w hw) (λu M hM=>?_)
 subst hM
 refine Sy.nil<|Sy.then_<|Sy.region<|sp J<|sp J<|Sy.callN kR 177 #[.slice A n cp] kF _ (λw' hw=>OE w' (.slice A n cp) x (hx0.le (λg o u hu=>Ad (w0:=w0.inn) (R:=[]) hw (λ_ h=>by cases h) g o u (.inl hu))) om) (λu M hM=>?_)
 refine Sy.permS (M:=WB gw (bad || !ok) s (R++M)) (List.Perm.of_eq (by simp only [List.append_assoc]))<|Sy.callT (λw hw=>B_ w0.inn gw (bad || !ok) s (R++M) b u (Ap x.length++x) hb (hM.byt.le (λg o v h=>.inr (AV (λx hx=>List.mem_append_right _ hx) g o v h))) (by rw [List.length_append]; omega) w hw) (λv M2 hM2=>?_)
 obtain ⟨r,hr,rfl⟩:=hM2
 refine Sy.nil ?_
 have q:=(Wrote.must ok bad b).then_ (Wrote.raw (Ap x.length++x) (bad || !ok) b (k:=9+x.length) (by rw [List.length_append]; omega))
 rw [Bool.and_true,List.nil_append,Nat.zero_add] at q
 exact Sy.retT0 J (WB gw (bad || !ok) r R) (λ_ h=>Bo h) (λ_=>⟨r,bad || !ok,_,q,hr,rfl⟩)
theorem Fk (w0:Base) (gw:Nat) (bad:Bool) (s:Slc) (R:AA) (b:Byt) (x:Bool) (hb:BS s b) (hl:b.length+1≤70368744177664) (w:World) (hw:St w0 w (WB gw bad s R)) :
  AL 145 #[ptr gw,.bool x] w (AQ w0 (WRw gw bad b [trB x] R)):=by
 have fnd:∀ (g1:Nat) (u:UInt8),BytR (rdC w0.inn (R++[(g1,5,#[bv u])])) (.slice (pA g1) 1 1) [u]:=λg1 u=>⟨_,_,_,rfl,rfl,Nat.le_refl _,by decide,λ_=>⟨g1,0,rfl,λj y hj=>.inr ⟨5,#[bv u],List.mem_append_right _ (List.mem_singleton.2 J),by
  cases j with
  | zero=>cases hj; rfl
  | succ j=>cases hj⟩⟩⟩
 refine Sy.enterT (args:=[ptr gw,.bool x]) hw Tryz.func145 J kL<|sC<|sp J<|sG ?_
 cases x
 case' false =>
  refine sU<|Sy.region<|sp J<|Sy.make kR 5 #[bv (trB false)] (λg=>.slice (pA g) 1 1) kF (λg1=>?_)
  refine Sy.permS (M:=WB gw bad s (R++[(g1,5,#[bv (trB false)])])) (List.Perm.of_eq (by simp only [List.append_assoc]))<|Sy.callT (λw hw=>B_ w0.inn gw bad s (R++[(g1,5,#[bv (trB false)])]) b (.slice (pA g1) 1 1) [trB false] hb (fnd g1 (trB false)) (by show _+1≤_; omega) w hw) (λv M hM=>?_)
  obtain ⟨r,hr,rfl⟩:=hM
  refine Sy.nil ?_
  exact Sy.retT0 J (WB gw bad r R) (λ_ h=>Bo h) (λ_=>⟨r,hr,rfl⟩)
 case' true =>
  refine sT<|Sy.region<|sp J<|Sy.make kR 5 #[bv (trB true)] (λg=>.slice (pA g) 1 1) kF (λg1=>?_)
  refine Sy.permS (M:=WB gw bad s (R++[(g1,5,#[bv (trB true)])])) (List.Perm.of_eq (by simp only [List.append_assoc]))<|Sy.callT (λw hw=>B_ w0.inn gw bad s (R++[(g1,5,#[bv (trB true)])]) b (.slice (pA g1) 1 1) [trB true] hb (fnd g1 (trB true)) (by show _+1≤_; omega) w hw) (λv M hM=>?_)
  obtain ⟨r,hr,rfl⟩:=hM
  refine Sy.nil ?_
  exact Sy.retT0 J (WB gw bad r R) (λ_ h=>Bo h) (λ_=>⟨r,hr,rfl⟩)
theorem Q1 (w0:Base) (gw:Nat) (bad:Bool) (s:Slc) (R:AA) (b:Byt) (x:MHe) (cs:List Value) (hx:Ds (rdW w0.world) cs x) (hb:BS s b) (hlo:x.next.keys.length≤1000000000000) (hl:b.length+Dq x≤70368744160000) (w:World) (hw:St w0 w (WB gw bad s R)) :
  AL 81 #[ptr gw,.agg cs.toArray] w (AQ w0 (Wd gw R (GH x) (Fg x) (Dq x) bad b)):=by
 obtain ⟨pv,hi,ti,rt,mn,rd,ch,nx⟩:=x
 obtain ⟨vr,vk,hcs,h1,h2,h3,h4,h5,h6,h7⟩:=hx
 dsimp only at h1 h2 h3 h4 h5 h6 h7 hlo
 unfold Dq at hl
 dsimp only at hl
 have e1:(pv.map bv).length=32:=by rw [List.length_map,h1]
 have e2:(rt.map bv).length=32:=by rw [List.length_map,h2]
 have e3:(mn.map bv).length=32:=by rw [List.length_map,h3]
 have hlen:cs.length=102:=by rw [hcs]; simp only [cHE,List.length_append,e1,e2,e3]; rfl
 refine Sy.enterT (args:=[ptr gw,.agg cs.toArray]) hw Tryz.func81 J kL<|sC<|sM 42 cs.toArray (λg3=>?_) kR (λw=>Aq J J kZ hlen w)
 refine Sy.permS (M:=WB gw bad s (R++[(g3,42,cs.toArray)])) (List.Perm.of_eq (by simp only [List.append_assoc])) ?_
 have hX:∀ l,l=cs→XAt (rdC w0.inn [(g3,42,cs.toArray)]) g3 0 l:=λl e i u hu=>.inr ⟨_,_,List.mem_singleton.2 J,by rw [Nat.zero_add,List.getElem?_toArray, ← e]; exact hu⟩
 have X0:XAt (rdC w0.inn [(g3,42,cs.toArray)]) g3 0 (pv.map bv++([uZ (hi:Int)]++([uZ (ti:Int)]++(rt.map bv++(mn.map bv++([vr]++([.bool ch]++([.int .i64 nx.t]++[vk])))))))):=hX _ hcs.symm
 have X1:XAt (rdC w0.inn [(g3,42,cs.toArray)]) g3 32 ([uZ (hi:Int)]++([uZ (ti:Int)]++(rt.map bv++(mn.map bv++([vr]++([.bool ch]++([.int .i64 nx.t]++[vk]))))))):=X0.right e1
 have X2:XAt (rdC w0.inn [(g3,42,cs.toArray)]) g3 33 ([uZ (ti:Int)]++(rt.map bv++(mn.map bv++([vr]++([.bool ch]++([.int .i64 nx.t]++[vk])))))):=X1.right (n:=1) rfl
 have X3:XAt (rdC w0.inn [(g3,42,cs.toArray)]) g3 34 (rt.map bv++(mn.map bv++([vr]++([.bool ch]++([.int .i64 nx.t]++[vk]))))):=X2.right (n:=1) rfl
 have X4:XAt (rdC w0.inn [(g3,42,cs.toArray)]) g3 66 (mn.map bv++([vr]++([.bool ch]++([.int .i64 nx.t]++[vk])))):=X3.right e2
 have X5:XAt (rdC w0.inn [(g3,42,cs.toArray)]) g3 98 ([vr]++([.bool ch]++([.int .i64 nx.t]++[vk]))):=X4.right e3
 have X6:XAt (rdC w0.inn [(g3,42,cs.toArray)]) g3 99 ([.bool ch]++([.int .i64 nx.t]++[vk])):=X5.right (n:=1) rfl
 have X7:XAt (rdC w0.inn [(g3,42,cs.toArray)]) g3 100 ([.int .i64 nx.t,vk]):=X6.right (n:=1) rfl
 obtain ⟨r0,hr0⟩:=xE s
 have k0:BS r0 b:=by rw [hr0]; exact hb
 rw [← hr0]
 obtain ⟨c0,hc0⟩:∃ c:Byt,c=b:=⟨_,rfl⟩
 have LL0:c0.length=b.length+0:=by rw [hc0]; rfl
 obtain ⟨c1,hc1⟩:∃ c:Byt,c=(b++pv):=⟨_,rfl⟩
 have LL1:c1.length=b.length+32:=by rw [hc1]; simp only [List.length_append,h1]
 obtain ⟨c2,hc2⟩:∃ c:Byt,c=(b++pv++nb 8 hi):=⟨_,rfl⟩
 have LL2:c2.length=b.length+40:=by rw [hc2]; simp only [List.length_append,B1,h1]
 obtain ⟨c3,hc3⟩:∃ c:Byt,c=(b++pv++nb 8 hi++nb 8 ti):=⟨_,rfl⟩
 have LL3:c3.length=b.length+48:=by rw [hc3]; simp only [List.length_append,B1,h1]
 obtain ⟨c4,hc4⟩:∃ c:Byt,c=(b++pv++nb 8 hi++nb 8 ti++rt):=⟨_,rfl⟩
 have LL4:c4.length=b.length+80:=by rw [hc4]; simp only [List.length_append,B1,h1,h2]
 obtain ⟨c5,hc5⟩:∃ c:Byt,c=(b++pv++nb 8 hi++nb 8 ti++rt++mn):=⟨_,rfl⟩
 have LL5:c5.length=b.length+112:=by rw [hc5]; simp only [List.length_append,B1,h1,h2,h3]
 have t1:c0++pv=c1:=by rw [hc0,hc1]
 have t2:c1++nb 8 hi=c2:=by rw [hc1,hc2]
 have t3:c2++nb 8 ti=c3:=by rw [hc2,hc3]
 have t4:c3++rt=c4:=by rw [hc3,hc4]
 have t5:c4++mn=c5:=by rw [hc4,hc5]
 rw [← hc0] at k0
 refine sA<|sp J<|sP (pT g3 0)<|sS (.agg (pv.map bv).toArray) (BQ (R:=[(g3,42,cs.toArray)]) (g:=g3) (f:=0) (k:=32) (cs:=pv.map bv) X0.left (λy hy=>Aj (List.mem_append_right R hy)) e1 J Dd)<|Sy.callT (λw hw=>EL w0.inn gw bad r0 (R++[(g3,42,cs.toArray)]) c0 pv h1 k0 (by rw [LL0]; omega) w hw) (λv M hM=>?_)
 obtain ⟨r1,k1,rfl⟩:=hM
 rw [t1] at k1
 refine sA<|sp J<|sP (pT g3 32)<|sS (uZ (hi:Int)) (AK (R:=[(g3,42,cs.toArray)]) (g:=g3) (f:=32) X1.one (λy hy=>Aj (List.mem_append_right R hy)) J CD)<|Sy.callT (λw hw=>GI w0.inn gw bad r1 (R++[(g3,42,cs.toArray)]) c1 hi 8 h4 dZ k1 (by rw [LL1]; omega) w hw) (λv M hM=>?_)
 obtain ⟨r2,k2,rfl⟩:=hM
 rw [t2] at k2
 refine sA<|sp J<|sP (pT g3 33)<|sS (uZ (ti:Int)) (AK (R:=[(g3,42,cs.toArray)]) (g:=g3) (f:=33) X2.one (λy hy=>Aj (List.mem_append_right R hy)) J CD)<|Sy.callT (λw hw=>GI w0.inn gw bad r2 (R++[(g3,42,cs.toArray)]) c2 ti 8 h5 dZ k2 (by rw [LL2]; omega) w hw) (λv M hM=>?_)
 obtain ⟨r3,k3,rfl⟩:=hM
 rw [t3] at k3
 refine sA<|sp J<|sP (pT g3 34)<|sS (.agg (rt.map bv).toArray) (BQ (R:=[(g3,42,cs.toArray)]) (g:=g3) (f:=34) (k:=32) (cs:=rt.map bv) X3.left (λy hy=>Aj (List.mem_append_right R hy)) e2 J Dd)<|Sy.callT (λw hw=>EL w0.inn gw bad r3 (R++[(g3,42,cs.toArray)]) c3 rt h2 k3 (by rw [LL3]; omega) w hw) (λv M hM=>?_)
 obtain ⟨r4,k4,rfl⟩:=hM
 rw [t4] at k4
 refine sA<|sp J<|sP (pT g3 66)<|sS (.agg (mn.map bv).toArray) (BQ (R:=[(g3,42,cs.toArray)]) (g:=g3) (f:=66) (k:=32) (cs:=mn.map bv) X4.left (λy hy=>Aj (List.mem_append_right R hy)) e3 J Dd)<|Sy.callT (λw hw=>EL w0.inn gw bad r4 (R++[(g3,42,cs.toArray)]) c4 mn h3 k4 (by rw [LL4]; omega) w hw) (λv M hM=>?_)
 obtain ⟨r5,k5,rfl⟩:=hM
 rw [t5] at k5
 refine sA<|sp J<|sP (pT g3 98)<|sS vr (AK (R:=[(g3,42,cs.toArray)]) (g:=g3) (f:=98) X5.one (λy hy=>Aj (List.mem_append_right R hy)) J Aw)<|Sy.callT (λw hw=>Cb w0.inn gw bad r5 (R++[(g3,42,cs.toArray)]) c5 vr rd 256 dZ k5 h6 (by rw [LL5]; omega) w hw) (λv M hM=>?_)
 obtain ⟨r6,bad6,b6,q6,k6,rfl⟩:=hM
 have l6:=q6.len
 refine sA<|sp J<|sP (pT g3 99)<|sS (.bool ch) (AK (R:=[(g3,42,cs.toArray)]) (g:=g3) (f:=99) X6.one (λy hy=>Aj (List.mem_append_right R hy)) J uy4)<|Sy.callT (λw hw=>Fk w0.inn gw bad6 r6 (R++[(g3,42,cs.toArray)]) b6 ch k6 om w hw) (λv M hM=>?_)
 obtain ⟨r7,k7,rfl⟩:=hM
 have q7:=Wrote.raw [trB ch] bad6 b6 (k:=1) (Nat.le_refl _)
 have l7:(b6++[trB ch]).length=b6.length+1:=by rw [List.length_append]; rfl
 have q0:=Wrote.raw (pv++(nb 8 hi++(nb 8 ti++(rt++mn)))) bad b (k:=112) (by simp only [List.length_append,B1,h1,h2,h3]; omega)
 have t0:b++(pv++(nb 8 hi++(nb 8 ti++(rt++mn))))=c5:=by rw [hc5]; simp only [List.append_assoc]
 rw [t0] at q0
 refine sA<|sP (pT g3 99)<|sS (.bool ch) (AK (R:=[(g3,42,cs.toArray)]) (g:=g3) (f:=99) X6.one (λy hy=>Aj (List.mem_append_right R hy)) J uy4)<|sG ?_
 cases ch
 case' true =>
  refine sT<|Sy.region<|sp J<|sP (pT g3 100)<|sS (.agg [.int .i64 nx.t,vk].toArray) (BQ (R:=[(g3,42,cs.toArray)]) (g:=g3) (f:=100) (k:=2) (cs:=[.int .i64 nx.t,vk]) X7 (λy hy=>Aj (List.mem_append_right R hy)) J J Ro)<|Sy.callT (λw hw=>QB w0.inn gw bad6 r7 (R++[(g3,42,cs.toArray)]) (b6++[trB true]) nx vk h7 k7 hlo om w hw) (λu M hM=>?_)
  obtain ⟨r8,bad8,b8,q8,k8,rfl⟩:=hM
  refine Sy.nil ?_
  have q':=(q0.then_ (q6.then_ (q7.then_ q8))).le (k':=Dq ⟨pv,hi,ti,rt,mn,rd,true,nx⟩) (by unfold Dq; dsimp only; omega)
  simp only [Bool.true_and,List.append_assoc] at q'
  exact Sy.retT0 J (WB gw bad8 r8 R) (λ_ h=>Bo h) (λ_=>⟨r8,bad8,b8,by unfold GH Fg; simp only [if_true,List.append_assoc]; exact q',k8,rfl⟩)
 obtain ⟨A,n,cp,rfl,m2,m3,m4,m5⟩:=h7
 obtain ⟨t1,ht1⟩:=xE (decide (nx.t=0))
 obtain ⟨t2,ht2⟩:=xE (decide (n=0))
 obtain ⟨ok,hok⟩:=xE ((decide (nx.t=0) && decide (nx.keys.length=0)))
 have hk:ok=(t1 && t2):=by rw [hok,ht1,ht2,m2]
 have fine:∀ ok',ok'=ok→Wrote (GH ⟨pv,hi,ti,rt,mn,rd,false,nx⟩) (Fg ⟨pv,hi,ti,rt,mn,rd,false,nx⟩) (Dq ⟨pv,hi,ti,rt,mn,rd,false,nx⟩) bad b (bad6 || !ok') (b6++[trB false]):=λok' e=>by
  have q':=(q0.then_ (q6.then_ (q7.then_ (Wrote.must ok' bad6 (b6++[trB false]))))).le (k':=Dq ⟨pv,hi,ti,rt,mn,rd,false,nx⟩) (by unfold Dq; dsimp only; omega)
  rw [e,hok] at q' ⊢
  simp only [Bool.true_and,List.append_assoc] at q'
  unfold GH Fg
  simp only [Bool.false_eq_true,if_false,List.append_assoc]
  exact q'
 refine sU<|Sy.region<|sp J<|sP (pT g3 100)<|sP (pT g3 100)<|sS (.int .i64 nx.t) (AK (R:=[(g3,42,cs.toArray)]) (g:=g3) (f:=100) X7.one (λy hy=>Aj (List.mem_append_right R hy)) J uy3)<|sS (.bool t1) (Quiet.pure (AE .eql _ _ _ .i64 _ _ _ J J J (Aa _ _ _ _ _ ht1.symm)))<|sp J ?_
 cases t1
 case' false =>
  obtain rfl:ok=false:=hk
  refine sN<|sN<|sN<|sN<|sN<|sP (.bool false)<|Sy.callT (λw hw=>A0 w0.inn gw bad6 false r7 (R++[(g3,42,cs.toArray)]) w hw) (λu M hM=>?_)
 case' true =>
  obtain rfl:ok=t2:=hk
  refine sP (pT g3 100)<|sP (pT g3 101)<|sS (.slice A n cp) (AK (R:=[(g3,42,cs.toArray)]) (g:=g3) (f:=101) X7.tail.one (λy hy=>Aj (List.mem_append_right R hy)) J FO)<|sP (.int .i64 (n:Int))<|sS (.bool ok) (qeq J J J ht2)<|sP (.bool ok)<|Sy.callT (λw hw=>A0 w0.inn gw bad6 ok r7 (R++[(g3,42,cs.toArray)]) w hw) (λu M hM=>?_)
 all_goals
  subst hM
  refine Sy.nil ?_
 ·exact Sy.retT0 J (WB gw (bad6 || !ok) r7 R) (λ_ h=>Bo h) (λ_=>⟨r7,bad6 || !ok,_,fine ok J,k7,rfl⟩)
 ·exact Sy.retT0 J (WB gw (bad6 || !false) r7 R) (λ_ h=>Bo h) (λ_=>⟨r7,bad6 || !false,_,fine false J,k7,rfl⟩)
end Wr
end
section
namespace Cu
open Go.RowKit Sy
section
variable {P:Program} {w0:Base} {n:Nat} {F:AJ} {L:AA}
theorem Rx {w1:World} {fn:Func} {r:ResultVar} {v:Value} {R:Value→AA→Prop} (i:Nat) (b:Nat×TypeId×Array Value) (hr:fn.results=#[r]) (h:Has P F L r v) (hb:L[i]? = some b) (hR:R v [b]):X (Base.of w1) n (bodyPost P fn (BD w1 R)) F L .ret:=λa w ha hw=>by
 refine bodyPost_ret (v:=v) ?_ ha.1 ⟨v,[b],rfl,hR,hw.below,λg t cs hm=>?_,by simp⟩
 ·rcases Res.run h ha hw with ⟨t,rfl,e1⟩ | ⟨t,ty,ad,rfl,e1,e2⟩ <;> simp [results,Result.andThen, *]
 ·obtain rfl:=List.mem_singleton.1 hm
  exact hw.blk _ _ _ (List.mem_of_getElem? hb)
end
theorem M9 {l:Ak} {k:Nat} {sp:List Value} (h:l.length=k):(((l.map bv++sp).toArray).toList.drop 0).take k=l.map bv:=by
 rw [List.drop_zero,List.take_append_of_le_length (by rw [List.length_map,h]; exact Nat.le_refl _),List.take_of_length_le (by rw [List.length_map,h]; exact Nat.le_refl _)]
theorem NA (l:Ak):∀ u∈l.map bv,u.oneCell'=true:=λu hu=>by
 obtain ⟨x,_,rfl⟩:=List.mem_map.1 hu
 rfl
theorem In (w:World) (x:Nat) (hx:x<K4):Calls Tryz.prog 214 #[fv x] w (BD w (λvq Mq=>∃ (g:Nat) (sp:List Value) (cap:Nat),vq=.slice (pA g) 32 cap∧Mq=[(g,5,((AW x).map bv++sp).toArray)])):=by
 refine (Im w x hx).mono ?_
 rintro e w' ⟨g,cap,rfl,ho,hl,hb⟩
 rcases ho.2 with ⟨h0,_⟩ | ⟨g',cap',cur,hv,hg,hk,_,q4,q5,q6⟩
 ·cases h0
 ·cases hv
  have hc:cur=((AW x).map bv++cur.toList.drop 32).toArray:=by
   rw [Nat.mul_one,AN] at q6
   rw [← q6,List.take_append_drop]
  refine ⟨_,[(g,5,cur)],rfl,⟨g,cur.toList.drop 32,cap,rfl,by rw [← hc]⟩,hb,λg1 t1 cs1 hm=>?_,by simp⟩
  simp only [List.mem_singleton,Prod.mk.injEq] at hm
  obtain ⟨rfl,rfl,rfl⟩:=hm
  exact ⟨by omega,hk⟩
theorem VL (w:World) (F:AJ) (o:Oper) (x y:Operand) (n:Nat) {yt:TypeId} (ho:o.op=.binOp .rem 22 x y yt) (hx:evF F x=.int .u64 (n:Int)) (hy:evF F y=.int .u64 2) (hn:n<18446744073709551616):(execOp (evF F) o).run Tryz.prog w=.ok (.value (.int .u64 ((n%2:Nat):Int))) w:=by
 have h:(binOp .rem 22 (.int .u64 (n:Int)) (.int .u64 2)).run Tryz.prog w=.ok (.int .u64 ((n%2:Nat):Int)) w:=by
  go_simp
  exact Int.tmod_eq_emod_of_nonneg om
 have h1:(eqGuard .rem 22 x y (.int .u64 (n:Int)) (.int .u64 2)).run Tryz.prog w=.ok () w:=by go_simp
 unfold execOp
 simp only [ho,hx,hy,Sem.run_bind,h1,h,Result.andThen_ok,Sem.run_pure]
theorem O1 (w:World) (x y:Nat) (i:Bool) (hx:x<K4) (hy:y<K4) (h:dec x y i=none):AL 217 #[pv x y i] w (BD w (λvq Mq=>∃ (g:Nat) (sp:List Value) (cap:Nat),vq=.slice (pA g) 33 cap∧(33≤cap∧cap≤9223372036854775807)∧Mq=[(g,5,((encS none).map bv++sp).toArray)])):=by
 refine Sy.enter (args:=[pv x y i]) Tryz.func217 J kL<|sC<|sM 57 (pcs x y i) (λg0=>?_)
 refine sP (.slice none 0 0)<|sA<|sS (pv x y i) (qk 0 0 9 J J Am)<|sS (pv 0 0 true) (qf (λw=>by have hrr:=F1 w x y i lK lK; rw [h] at hrr; exact hrr))<|sw 0 J (pcs 0 0 true) (wA J)<|sA<|Sy.make kR 5 (Zl 33).toArray (λg=>.slice (pA g) 33 33) kF (λg1=>?_)
 refine sP (.slice (pA g1) 33 33)<|sG<|Sy.seq<|sC<|sP (pT g0 8)<|sS (.bool true) (qc 0 8 J J uy4)<|sG<|sT<|sC<|sP (.slice (pA g1) 33 33)<|sP (.slice (pA g1) 33 33)<|sG<|Sy.ret<|Sy.then_ret ?_
 exact Rx 1 (g1,5,(Zl 33).toArray) rfl (v:=.slice (pA g1) 33 33) (.inl (show _=_ by kernel_rfl)) kR ⟨g1,[],33,rfl,⟨by decide,by decide⟩,by kernel_rfl⟩
theorem O2 (w:World) (x y:Nat) (i:Bool) (hx:x<K4) (hy:y<K4) (u v:Fp) (h:dec x y i=some (u,v)) (hv:v.val%2=0):AL 217 #[pv x y i] w (BD w (λvq Mq=>∃ (g:Nat) (sp:List Value) (cap:Nat),vq=.slice (pA g) 33 cap∧(33≤cap∧cap≤9223372036854775807)∧Mq=[(g,5,((encS (some (u,v))).map bv++sp).toArray)])):=by
 have hv2:v.val%18446744073709551616%2=0:=om
 refine Sy.enter (args:=[pv x y i]) Tryz.func217 J kL<|sC<|sM 57 (pcs x y i) (λg0=>?_)
 refine sP (.slice none 0 0)<|sA<|sS (pv x y i) (qk 0 0 9 J J Am)<|sS (pv u.val v.val false) (qf (λw=>by have hrr:=F1 w x y i lK lK; rw [h] at hrr; exact hrr))<|sw 0 J (pcs u.val v.val false) (wA J)<|sA<|Sy.make kR 5 (Zl 33).toArray (λg=>.slice (pA g) 33 33) kF (λg1=>?_)
 refine sP (.slice (pA g1) 33 33)<|sG<|Sy.seq<|sC<|sP (pT g0 8)<|sS (.bool false) (qc 0 8 J J uy4)<|sG<|sU<|Sy.skip<|sB<|sP (pT g0 4)<|sP (pT g0 4)<|sS (qv (v.val%18446744073709551616)) (qc 0 4 J J CD)<|sS (uZ 0) (Quiet.pure (λw=>(VL w _ _ _ _ (v.val%18446744073709551616) rfl J J (Nat.mod_lt _ dZ)).trans (by rw [hv2]; rfl)))<|sP (uZ 2)<|sP (bv 2)<|Sy.make kR 5 #[bv 2] (λg=>.slice (pA g) 1 1) kF (λg2=>?_)
 refine sP (.slice (pA g2) 1 1)<|sA<|sP (.slice (pA g2) 1 1)<|sP (pT g0 0)<|sS (fv u.val) (qk 0 0 4 J J Af)<|sS (fv u.val) (qf (λw=>refOf_any w u.val lK))<|Sy.callN kR 214 #[fv u.val] kF (λvq Mq=>∃ (g:Nat) (sp:List Value) (cap:Nat),vq=.slice (pA g) 32 cap∧Mq=[(g,5,((AW u.val).map bv++sp).toArray)]) (λw _=>In w u.val (lt4 _)) (λvq Mq hR0=>?_)
 obtain ⟨g9,sp9,cp9,rfl,rfl⟩:=hR0
 refine Sy.append kR 27 5 _ _ Aw info_u8 J J J J _ _ J 2 g2 1 1 #[bv 2] [bv 2] kR kR kR J kR dZ 3 g9 0 32 cp9 5 ((AW u.val).map bv++sp9).toArray ((AW u.val).map bv) kR kR (M9 (AN _)) (by rw [List.length_map]; exact (AN _)) (NA _) dZ (λq1 c1 s1 e1 m1=>?_)
 refine sP (.slice (pA q1) (1+32) c1)<|sG<|Sy.ret ?_
 exact Rx 2 (q1,5,([bv 2]++((AW u.val).map bv++s1)).toArray) rfl (v:=.slice (pA q1) (1+32) c1) (.inl (show _=_ by kernel_rfl)) kR ⟨q1,s1,c1,rfl,⟨by omega,by simp only [maxLen] at m1; omega⟩,by rw [show encS (some (u,v))=2::AW u.val from by show (if v.val%2=1 then (3:UInt8) else 2)::AW u.val=_; rw [if_neg om]]; rfl⟩
theorem RF (w:World) (x y:Nat) (i:Bool) (hx:x<K4) (hy:y<K4) (u v:Fp) (h:dec x y i=some (u,v)) (hv:v.val%2=1):AL 217 #[pv x y i] w (BD w (λvq Mq=>∃ (g:Nat) (sp:List Value) (cap:Nat),vq=.slice (pA g) 33 cap∧(33≤cap∧cap≤9223372036854775807)∧Mq=[(g,5,((encS (some (u,v))).map bv++sp).toArray)])):=by
 have hv2:v.val%18446744073709551616%2=1:=om
 refine Sy.enter (args:=[pv x y i]) Tryz.func217 J kL<|sC<|sM 57 (pcs x y i) (λg0=>?_)
 refine sP (.slice none 0 0)<|sA<|sS (pv x y i) (qk 0 0 9 J J Am)<|sS (pv u.val v.val false) (qf (λw=>by have hrr:=F1 w x y i lK lK; rw [h] at hrr; exact hrr))<|sw 0 J (pcs u.val v.val false) (wA J)<|sA<|Sy.make kR 5 (Zl 33).toArray (λg=>.slice (pA g) 33 33) kF (λg1=>?_)
 refine sP (.slice (pA g1) 33 33)<|sG<|Sy.seq<|sC<|sP (pT g0 8)<|sS (.bool false) (qc 0 8 J J uy4)<|sG<|sU<|Sy.skip<|sB<|sP (pT g0 4)<|sP (pT g0 4)<|sS (qv (v.val%18446744073709551616)) (qc 0 4 J J CD)<|sS (uZ 1) (Quiet.pure (λw=>(VL w _ _ _ _ (v.val%18446744073709551616) rfl J J (Nat.mod_lt _ dZ)).trans (by rw [hv2]; rfl)))<|sP (uZ 3)<|sP (bv 3)<|Sy.make kR 5 #[bv 3] (λg=>.slice (pA g) 1 1) kF (λg2=>?_)
 refine sP (.slice (pA g2) 1 1)<|sA<|sP (.slice (pA g2) 1 1)<|sP (pT g0 0)<|sS (fv u.val) (qk 0 0 4 J J Af)<|sS (fv u.val) (qf (λw=>refOf_any w u.val lK))<|Sy.callN kR 214 #[fv u.val] kF (λvq Mq=>∃ (g:Nat) (sp:List Value) (cap:Nat),vq=.slice (pA g) 32 cap∧Mq=[(g,5,((AW u.val).map bv++sp).toArray)]) (λw _=>In w u.val (lt4 _)) (λvq Mq hR0=>?_)
 obtain ⟨g9,sp9,cp9,rfl,rfl⟩:=hR0
 refine Sy.append kR 27 5 _ _ Aw info_u8 J J J J _ _ J 2 g2 1 1 #[bv 3] [bv 3] kR kR kR J kR dZ 3 g9 0 32 cp9 5 ((AW u.val).map bv++sp9).toArray ((AW u.val).map bv) kR kR (M9 (AN _)) (by rw [List.length_map]; exact (AN _)) (NA _) dZ (λq1 c1 s1 e1 m1=>?_)
 refine sP (.slice (pA q1) (1+32) c1)<|sG<|Sy.ret ?_
 exact Rx 2 (q1,5,([bv 3]++((AW u.val).map bv++s1)).toArray) rfl (v:=.slice (pA q1) (1+32) c1) (.inl (show _=_ by kernel_rfl)) kR ⟨q1,s1,c1,rfl,⟨by omega,by simp only [maxLen] at m1; omega⟩,by rw [show encS (some (u,v))=3::AW u.val from by show (if v.val%2=1 then (3:UInt8) else 2)::AW u.val=_; rw [if_pos om]]; rfl⟩
theorem encW_any (w:World) (x y:Nat) (i:Bool) (hx:x<K4) (hy:y<K4):Calls Tryz.prog 217 #[pv x y i] w (BD w (λvq Mq=>∃ (g:Nat) (sp:List Value) (cap:Nat),vq=.slice (pA g) 33 cap∧(33≤cap∧cap≤9223372036854775807)∧Mq=[(g,5,((encS (dec x y i)).map bv++sp).toArray)])):=by
 rcases h:dec x y i with _ | ⟨u,v⟩
 ·exact O1 w x y i hx hy h
 ·rcases Nat.mod_two_eq_zero_or_one v.val with hv | hv
  ·exact O2 w x y i hx hy u v h hv
  ·exact RF w x y i hx hy u v h hv
theorem Ik (w:World) (x y:Nat) (i:Bool) (hx:x<K4) (hy:y<K4):Calls Tryz.prog 217 #[pv x y i] w (BD w (λvq Mq=>∃ (g:Nat) (sp:List Value) (cap:Nat),vq=.slice (pA g) 33 cap∧Mq=[(g,5,((encS (dec x y i)).map bv++sp).toArray)])):=by
 refine (encW_any w x y i hx hy).mono ?_
 rintro e w' ⟨v,M,h1,⟨g,sp,cap,h2,_,h3⟩,h4⟩
 exact ⟨v,M,h1,⟨g,sp,cap,h2,h3⟩,h4⟩
end Cu
end
section
section
open Go.RowKit Go.Lib
theorem Du (w:World) (g cap:Nat) (l:Ak) (hl:l.length=32) (hg:g<w.heap.size) (hcell:∀ j u,l[j]? = some u→w.cell? ⟨g,j,none⟩=some (bv u)) (_:32≤cap) (_:cap≤9223372036854775807):Calls Tryz.prog 218 #[.slice (pA g) 32 cap] w λe w'=>e=.returned (fv (Ag l))∧Below w.heap.size w w':=by
 have HL:=Lib.hid hl
 have HG:=Lib.hid hcell
 clear hl hcell
 go_enter Tryz.func218,Tryz.ntmps218
 go_wp2_with fail
 go_loopw [4] (λi wr=>∃ k y0 y1 y2 y3:Nat,k≤32∧i=.int .i64 (k:Int)∧Hid (y0=wdB l k 0∧y1=wdB l k 1∧y2=wdB l k 2∧y3=wdB l k 3)∧Below w.heap.size w wr∧Blk wr (w.heap.size+1) 359 #[.int .u64 (y3:Int),.int .u64 (y2:Int),.int .u64 (y1:Int),.int .u64 (y0:Int)]∧Blk wr w.heap.size 359 #[.int .u64 0,.int .u64 0,.int .u64 0,.int .u64 0]) (λi _=>32 - (intOf i).toNat)
 case atStart=>exact ⟨0,0,0,0,0,by omega,rfl,Lib.hid ⟨(Bb l 0).symm,(Bb l 1).symm,(Bb l 2).symm,(Bb l 3).symm⟩,AZ w _ _,Ab w _ _ _,(Blk.new w _ _).alloc _⟩
 case round =>
  obtain ⟨k,y0,y1,y2,y3,hk,rfl,HY,hb,hP,hR⟩:=hrel
  have q3:wr.cell? ⟨w.heap.size+1,0,none⟩=some (.int .u64 (y3:Int)):=hP.cell 0
  have q2:wr.cell? ⟨w.heap.size+1,1,none⟩=some (.int .u64 (y2:Int)):=hP.cell 1
  have q1:wr.cell? ⟨w.heap.size+1,2,none⟩=some (.int .u64 (y1:Int)):=hP.cell 2
  have q0:wr.cell? ⟨w.heap.size+1,3,none⟩=some (.int .u64 (y0:Int)):=hP.cell 3
  have ff:∀ j,wr.frozen? ⟨w.heap.size+1,j,none⟩=false:=λj=>hP.frozen j
  by_cases hlt:k<32
  ·obtain ⟨c,hc⟩:∃ c,l[k]? = some c:=⟨l[k]'(by rw [HL.out]; exact hlt),List.getElem?_eq_getElem _⟩
   have HC:=Lib.hid hc
   obtain ⟨m,hm⟩:=xE c.toNat
   have hm8:m<256:=by rw [hm]; exact c.toNat_lt
   have hI:wr.cell? ⟨g,k,none⟩=some (.int .u8 (m:Int)):=by
    rw [hm]
    exact (hb.cell (p:=⟨g,k,none⟩) hg).trans (HG.out k c hc)
   have HM:=Lib.hid hm
   have HR:=Lib.hid (And.intro hb (And.intro hP hR))
   clear hb hP hR hc hk hm
   rcases (DB k) with rfl|rfl|rfl|rfl|rfl|rfl|rfl|rfl|rfl|rfl|rfl|rfl|rfl|rfl|rfl|rfl|rfl|rfl|rfl|rfl|rfl|rfl|rfl|rfl|rfl|rfl|rfl|rfl|rfl|rfl|rfl|rfl
   all_goals
    first
    | ((have hy:y0<72057594037927936:=by rw [HY.out.1]; exact Ci l _ 0 dZ); go_wp2; go_region; all_goals go_wp2; all_goals (refine ⟨⟨_,y0*256+m,y1,y2,y3,by decide,rfl,Lib.hid ⟨by rw [HY.out.1,HM.out]; exact (Bc l _ 0 c HC.out dZ).symm,by rw [HY.out.2.1]; exact (AR l _ 1 dZ).symm,by rw [HY.out.2.2.1]; exact (AR l _ 2 dZ).symm,by rw [HY.out.2.2.2]; exact (AR l _ 3 dZ).symm⟩,(HR.out.1.setCell (by show w.heap.size≤w.heap.size+1; omega) _).drew,Blk.drew (Blk.eq_ (HR.out.2.1.set_ 3 _) (by rw [show ((y0*256+m:Nat):Int)=(y0:Int)*256+(m:Int) by omega]; rfl)),Blk.drew (HR.out.2.2.far (by show w.heap.size≠w.heap.size+1; omega) _)⟩,by simp [intOf]⟩))
    | ((have hy:y1<72057594037927936:=by rw [HY.out.2.1]; exact Ci l _ 1 dZ); go_wp2; go_region; all_goals go_wp2; all_goals (refine ⟨⟨_,y0,y1*256+m,y2,y3,by decide,rfl,Lib.hid ⟨by rw [HY.out.1]; exact (AR l _ 0 dZ).symm,by rw [HY.out.2.1,HM.out]; exact (Bc l _ 1 c HC.out dZ).symm,by rw [HY.out.2.2.1]; exact (AR l _ 2 dZ).symm,by rw [HY.out.2.2.2]; exact (AR l _ 3 dZ).symm⟩,(HR.out.1.setCell (by show w.heap.size≤w.heap.size+1; omega) _).drew,Blk.drew (Blk.eq_ (HR.out.2.1.set_ 2 _) (by rw [show ((y1*256+m:Nat):Int)=(y1:Int)*256+(m:Int) by omega]; rfl)),Blk.drew (HR.out.2.2.far (by show w.heap.size≠w.heap.size+1; omega) _)⟩,by simp [intOf]⟩))
    | ((have hy:y2<72057594037927936:=by rw [HY.out.2.2.1]; exact Ci l _ 2 dZ); go_wp2; go_region; all_goals go_wp2; all_goals (refine ⟨⟨_,y0,y1,y2*256+m,y3,by decide,rfl,Lib.hid ⟨by rw [HY.out.1]; exact (AR l _ 0 dZ).symm,by rw [HY.out.2.1]; exact (AR l _ 1 dZ).symm,by rw [HY.out.2.2.1,HM.out]; exact (Bc l _ 2 c HC.out dZ).symm,by rw [HY.out.2.2.2]; exact (AR l _ 3 dZ).symm⟩,(HR.out.1.setCell (by show w.heap.size≤w.heap.size+1; omega) _).drew,Blk.drew (Blk.eq_ (HR.out.2.1.set_ 1 _) (by rw [show ((y2*256+m:Nat):Int)=(y2:Int)*256+(m:Int) by omega]; rfl)),Blk.drew (HR.out.2.2.far (by show w.heap.size≠w.heap.size+1; omega) _)⟩,by simp [intOf]⟩))
    | ((have hy:y3<72057594037927936:=by rw [HY.out.2.2.2]; exact Ci l _ 3 dZ); go_wp2; go_region; all_goals go_wp2; all_goals (refine ⟨⟨_,y0,y1,y2,y3*256+m,by decide,rfl,Lib.hid ⟨by rw [HY.out.1]; exact (AR l _ 0 dZ).symm,by rw [HY.out.2.1]; exact (AR l _ 1 dZ).symm,by rw [HY.out.2.2.1]; exact (AR l _ 2 dZ).symm,by rw [HY.out.2.2.2,HM.out]; exact (Bc l _ 3 c HC.out dZ).symm⟩,(HR.out.1.setCell (by show w.heap.size≤w.heap.size+1; omega) _).drew,Blk.drew (Blk.eq_ (HR.out.2.1.set_ 0 _) (by rw [show ((y3*256+m:Nat):Int)=(y3:Int)*256+(m:Int) by omega]; rfl)),Blk.drew (HR.out.2.2.far (by show w.heap.size≠w.heap.size+1; omega) _)⟩,by simp [intOf]⟩))
  ·have p1:¬ (k:Int)<32:=om
   obtain rfl:k=32:=om
   have b0:y0<18446744073709551616:=by rw [HY.out.1]; exact B9 l _ _
   have b1:y1<18446744073709551616:=by rw [HY.out.2.1]; exact B9 l _ _
   have b2:y2<18446744073709551616:=by rw [HY.out.2.2.1]; exact B9 l _ _
   have b3:y3<18446744073709551616:=by rw [HY.out.2.2.2]; exact B9 l _ _
   obtain ⟨z,hz⟩:=xE (y3+18446744073709551616*y2+340282366920938463463374607431768211456*y1+6277101735386680763835789423207666416102355444464034512896*y0)
   have fz:=Cw y3 y2 y1 y0 b3 b2 b1 b0
   rw [← hz] at fz
   have hzv:Ag l=z:=by rw [Hg l HL.out,hz,HY.out.1,HY.out.2.1,HY.out.2.2.1,HY.out.2.2.2]
   have HZ:=Lib.hid hzv
   have FZ:=Lib.hid fz.symm
   have HP:=Lib.hid hP
   have HR:=Lib.hid hR
   clear HY b0 b1 b2 b3 hz fz hzv q0 q1 q2 q3 ff hP hR
   go_wp2_with (first | ((with_reducible refine AF (d:=some 31) ?_); refine AC J _ _ J (w.heap.size+1) rfl z _ _ _ HP.out FZ.out AU J kZ ?_) | ((with_reducible refine AG ?_); refine AB J _ _ _ J w.heap.size (fcs z) J J _ _ HR.out kZ (by rfl) (AM _) ?_; intro vz hLz hqz hKz))
   exact bodyPost_ret (results_cell_row J _ _ w.heap.size _ _ (0,0) _ J hLz AU J kZ) rfl ⟨by rw [HZ.out]; rfl,hb.trans (hqz _ om)⟩
end
end
section
namespace Sy
open Go.RowKit
section
variable {P:Program} {w0:Base} {n:Nat} {Q:Exit→Act→World→Prop} {F:AJ} {L:AA}
theorem Ud {c:Code} (N:Nat) (I:Nat→Act→World→Prop) (h0:∀ a w,Fr w0.ds a n F→St w0 w L→I 0 a w)
  (hr:∀ i,i≤N→∀ a w,I i a w→c.wpIn w0.fence w0.room P (Exit.then (λa w=>i<N∧I (i+1) a w) Q) a w):wpR P w0 n c Q (N+1) F L:=λa w ha hw=>by
 have key:∀ k i,i+k=N→∀ a w,I i a w→Code.roundsIn w0.fence w0.room P c Q (k+1) a w:=by
  intro k
  induction k with
  | zero =>
   intro i hi a w h
   refine wpIn_mono (hr i om a w h) λe a w hq=>?_
   cases e <;> first | exact hq | exact absurd hq.1 om
  | succ k ih =>
   intro i hi a w h
   refine wpIn_mono (hr i om a w h) λe a w hq=>?_
   cases e <;> first | exact hq | exact ih (i+1) om a w hq.2
 exact key N 0 om a w (h0 a w ha hw)
theorem loopXR {T:Type} {c:Code} (N:Nat) (FF:Nat→T→AJ) (LL:Nat→T→AA) (H:Nat→T→Prop) (x0:T) (m:List Bool) (h0:H 0 x0) (hF:∀ p∈FF 0 x0,F.lookup p.1=some p.2) (hL:sel L m=LL 0 x0)
  (hr:∀ k x,k≤N→H k x→wpC P w0 n (Exit.then (La w0 n N FF LL H k) Q) (FF k x) (LL k x) c):wpR P w0 n c Q (N+1) F L :=
 Ud N (λk a w=>∃ x,H k x∧Fr w0.ds a n (FF k x)∧St w0 w (LL k x)) (λ_ _ ha hw=>⟨x0,h0,ha.all hF,hL ▸ hw.less (DW L m)⟩)
  λk hk a w ⟨x,hx,ha,hw⟩=>hr k x hk hx a w ha hw
end
theorem Rf (l:Ak) (k:Nat) {n:Nat} (hl:l.length=n) (s:List Value) (hk:k<n):((l.take k).map bv++([bv (l.getD k 0)]++s)).toArray.toList.take (k+1)=(l.take (k+1)).map bv:=by
 have hlt:k<l.length:=om
 have e:((l.take k).map bv).length=k:=by simp; omega
 rw [show ((l.take k).map bv++([bv (l.getD k 0)]++s)).toArray.toList=(l.take k).map bv++([bv (l.getD k 0)]++s) from rfl,List.take_append,e,List.take_of_length_le om,Nat.add_sub_cancel_left,List.take_succ_eq_append_getElem hlt,List.map_append]
 congr 1
 simp [List.getD,hlt]
theorem TL (l:Ak) (k:Nat) {n:Nat} (hl:l.length=n) (hk:k<n):((l.take (k+1)).map bv).length=k+1:=by simp; omega
theorem Rg (l:Ak) (k:Nat) {n:Nat} (hl:l.length=n) (s:List Value) {c:Nat} (hc:s.length+(k+1)=c) (hk:k<n):((l.take k).map bv++([bv (l.getD k 0)]++s)).toArray.size=c:=by simp; omega
theorem Rh (l:Ak) (k:Nat) (hl:l.length=k+1) {s:List Value}:((l.take k).map bv++([bv (l.getD k 0)]++s))=l.map bv++s:=by
 have hlt:k<l.length:=om
 have e:l=l.take k++[l.getD k 0]:=by
  have h2:=List.take_succ_eq_append_getElem hlt
  rw [List.take_of_length_le om] at h2
  rw [List.getD_eq_getElem?_getD,List.getElem?_eq_getElem hlt]
  exact h2
 conv=>rhs; rw [e,List.map_append,List.append_assoc]
 rfl
theorem Sm {l:Ak} {n:Nat} (h:l.length=n) {k o:Nat} (hk:k<n) (ho:o=k):((l.map bv).toArray)[o]? = some (bv (l.getD k 0)):=by
 subst h ho
 rw [List.getElem?_toArray,List.getElem?_map,List.getD_eq_getElem?_getD,List.getElem?_eq_getElem hk]
 rfl
end Sy
end
section
namespace Cu
open Go.RowKit Sy
theorem Ob {w:World} {g:Nat} {t:TypeId} {m:Ak} {sp:List Value} (hb:Blk w g t (m.map bv++sp).toArray) (j:Nat) (u:UInt8) (hj:m[j]? = some u):w.cell? ⟨g,j,none⟩=some (bv u):=by
 refine (hb.cell j).trans ?_
 have hl:=(List.getElem?_eq_some_iff.1 hj).1
 rw [List.getElem?_toArray,List.getElem?_append_left (by rw [List.length_map]; exact hl),List.getElem?_map,hj]
 rfl
theorem Ou (w:World) (l:Ak) (hl:l.length=32):AL 248 #[.agg (l.map bv).toArray] w (Ai w (.tuple #[ptv (Ar l),.bool (Bf l)])):=by
 have hv:=Bl l hl
 refine Sy.enter (args:=[.agg (l.map bv).toArray]) Tryz.func248 J kL<|sC<|sM 210 (l.map bv).toArray (λg0=>?_)
 refine sM 57 (pcs 0 0 false) (λg1=>?_)
 refine sP (.bool false)<|sA<|sP (.slice none 0 0)<|sG<|Sy.seq<|sC<|sP (.int .i64 0)<|sG<|Sy.block<|Sy.loopN (31+1+1)<|Sy.round<|Sy.seq<|sC<|sP (.int .i64 0)<|sP (.bool true)<|sG<|sT<|Sy.skip<|Sy.then_<|Sy.seq<|Sy.block<|Sy.region<|sP (.slice none 0 0)<|sP (.int .i64 0)<|sP (pT g0 0)<|sS (bv (l.getD 0 0)) (qy 0 0 J J uy5 (Ug l hl 0 dZ)) ?_
 refine Sy.make kR 5 #[bv (l.getD 0 0)] (λg=>.slice (pA g) 1 1) kF (λg2=>?_)
 refine Sy.appendNil kR 27 5 _ _ Aw info_u8 J J J J _ _ J kR 2 g2 0 1 1 5 #[bv (l.getD 0 0)] [bv (l.getD 0 0)] kR kR kR J dZ (by intro u hu; simp only [List.mem_cons,List.not_mem_nil,or_false] at hu; subst hu; rfl) dZ (λq1 c1 s1 e1 m1=>?_)
 refine sP (.slice (pA q1) 1 c1)<|Sy.nil<|Sy.in_<|Sy.then_<|Sy.region<|sP (.int .i64 0)<|sP (.int .i64 1)<|sP (.int .i64 1)<|Sy.nil<|Sy.again<|Sy.loopXR (T:=Nat×Nat×List Value) 31 (λk1 y1=>[(1,pT g0 0),(2,pT g1 0),(4,.slice (some ⟨y1.1,0,none⟩) (k1+1) y1.2.1),(5,iZ (k1+1))]) (λk1 y1=>[(g0,210,(l.map bv).toArray),(g1,57,(pcs 0 0 false)),(y1.1,5,((l.take k1).map bv++([bv (l.getD k1 0)]++y1.2.2)).toArray)]) (λk1 y1=>y1.2.2.length+(k1+1)=y1.2.1∧y1.2.1≤maxLen) (q1,c1,s1) [true,true,false,true] ⟨e1,m1⟩ ac4 kR (λk1 y1 hk1 hh1=>?_)
 refine Sy.seq<|sC<|sP (iZ (k1+1)) ?_
 obtain ⟨b1,hb1⟩:=xE (decide (k1+1<32))
 refine sS (.bool b1) (qls J J J hb1)<|sG ?_
 cases b1
 ·have lb1:=dN hb1
  refine sU<|Sy.exit<|Sy.then_exit<|Sy.then_exit ?_
  obtain rfl:k1=31:=om
  have hcp:32≤y1.2.1∧y1.2.1≤9223372036854775807:=by
   have q:=hh1
   simp only [maxLen] at q
   exact ⟨by omega,by omega⟩
  refine Sy.in_exit<|Sy.then_<|Sy.tidyC (G:=[(1,pT g0 0),(2,pT g1 0),(4,.slice (some ⟨y1.1,0,none⟩) 32 y1.2.1)]) (N:=[(g0,210,(l.map bv).toArray),(g1,57,(pcs 0 0 false)),(y1.1,5,(l.map bv++y1.2.2).toArray)]) [true,true,true] rfl (E6 J (E6 J (E6 (beq (congrArg List.toArray (Rh l 31 hl))) J))) ac3<|sC<|sP (.slice (some ⟨y1.1,0,none⟩) 32 y1.2.1)<|sS (fv (Ag l)) (qg (λw hw=>Du w y1.1 y1.2.1 l hl (hw.get (i:=2) rfl).lt (Ob (hw.get (i:=2) rfl)) hcp.1 hcp.2))<|sM 359 (fcs 0) (λg3=>?_)
  refine sw 3 J (fcs (Ag l)) (wA J)<|sA<|sS (fv (Ag l)) (qk 3 0 4 J J AU) ?_
  obtain ⟨z1,hz1⟩:∃ z:Nat,z=D4 (Ag l):=⟨_,rfl⟩
  have lz1:z1<K4:=by rw [hz1]; exact RV _
  refine sS (fv z1) (qf (λw=>by rw [hz1]; exact TB w (Ag l) lK)) ?_
  obtain ⟨r1,hr1⟩:∃ z:Nat,z=(Br z1).1:=⟨_,rfl⟩
  obtain ⟨k1,hk1⟩:=xE ((Br z1).2)
  have lr1:r1<K4:=by rw [hr1]; exact Jj _
  refine sS (.tuple #[fv r1,.bool k1]) (qf (λw=>by rw [hr1,hk1, ← Rt]; exact OO w z1 lK))<|sP (.tuple #[fv r1,.bool k1])<|sP (fv r1)<|sP (.bool k1)<|sM 359 (fcs 0) (λg4=>?_)
  refine sw 4 J (fcs r1) (wA J)<|sP (.bool k1)<|sH (λj=>false) ?_
  refine sD 0 J (.agg EI) (qf DK)<|sD 1 J (fv (Ag l)) (qk 3 0 4 J J AU) ?_
  obtain ⟨b2,hb2⟩:=xE (decide ((Ag l)<pM))
  refine sD 2 J (.bool b2) (qf (λw=>by rw [hb2]; exact rightR_any w (Ag l) lK))<|sZ 3 J (.bool b2)<|sI<|Sy.seq<|sC<|sP (.bool k1) ?_
  cases k1
  ·refine sP (.bool true)<|sP (.bool true) ?_
   refine sN<|sN<|sP (.bool true)<|sG<|sT<|sC<|sS (pv 0 0 true) (qf EO)<|sw 1 J (pcs 0 0 true) (wA J)<|sP (.bool false)<|sG<|Sy.ret<|Sy.then_ret ?_
   rw [show (.tuple #[ptv (Ar l),.bool (Bf l)]:Value)=.tuple #[pv 0 0 true,.bool false] from by
    have hb:Bf l=false:=by unfold Bf; rw [← hz1, ← hk1]; simp
    rw [hb,FB hb]; rfl]
   exact Sy.ret2 (v:=pv 0 0 true) (u:=.bool false) rfl (.inl (Res.cell (ty':=57) g1 1 (pcs 0 0 true) _ kR kR Am J kR kR)) (.inl (show _=_ by kernel_rfl))
  ·refine sP (.bool false)<|sP (.bool false)<|sP (.bool b2) ?_
   cases b2
   ·refine sP (.bool true)<|sP (.bool true) ?_
    refine sG<|sT<|sC<|sS (pv 0 0 true) (qf EO)<|sw 1 J (pcs 0 0 true) (wA J)<|sP (.bool false)<|sG<|Sy.ret<|Sy.then_ret ?_
    rw [show (.tuple #[ptv (Ar l),.bool (Bf l)]:Value)=.tuple #[pv 0 0 true,.bool false] from by
     have hb:Bf l=false:=by unfold Bf; rw [← hb2]; simp
     rw [hb,FB hb]; rfl]
    exact Sy.ret2 (v:=pv 0 0 true) (u:=.bool false) rfl (.inl (Res.cell (ty':=57) g1 1 (pcs 0 0 true) _ kR kR Am J kR kR)) (.inl (show _=_ by kernel_rfl))
   ·refine sP (.bool false)<|sP (.bool false) ?_
    refine sG<|sU<|Sy.skip<|sB<|sS (fv (Ag l)) (qk 3 0 4 J J AU)<|sS (fv r1) (qk 4 0 4 J J AU)<|sS (pv (Ag l) r1 false) (qf (λw=>Kl w (Ag l) r1 lK lK))<|sw 1 J (pcs (Ag l) r1 false) (wA J)<|sP (.bool true)<|sG<|Sy.ret ?_
    rw [show (.tuple #[ptv (Ar l),.bool (Bf l)]:Value)=.tuple #[pv (Ag l) r1 false,.bool true] from by
     have hb:Bf l=true:=by unfold Bf; rw [← hz1, ← hk1, ← hb2]; rfl
     obtain ⟨u2,y2,e1,e2,e3,_,_⟩:=GN hb
     rw [hb,e3]
     unfold ptv
     simp only
     rw [e1,e2, ← hz1, ← hr1]]
    exact Sy.ret2 (v:=pv (Ag l) r1 false) (u:=.bool true) rfl (.inl (Res.cell (ty':=57) g1 1 (pcs (Ag l) r1 false) _ kR kR Am J kR kR)) (.inl (show _=_ by kernel_rfl))
 ·have lb1:=dY hb1
  refine sT<|Sy.skip<|Sy.then_<|Sy.seq<|Sy.block<|Sy.region<|sP (.slice (some ⟨y1.1,0,none⟩) (k1+1) y1.2.1)<|sP (iZ (k1+1))<|sS (.pointer (some ⟨g0,0+(k1+1)*1,none⟩)) (Quiet.pure (BA 210 _ _ _ g0 0 _ (k1+1) 1 .i64 J J J FV kF om))<|sS (bv (l.getD (k1+1) 0)) (qy 0 (0+(k1+1)*1) rfl J uy5 (Sm hl (k:=k1+1) om om))<|Sy.make kR 5 #[bv (l.getD (k1+1) 0)] (λg=>.slice (pA g) 1 1) kF (λg5=>?_)
  refine Sy.append kR 27 5 _ _ Aw info_u8 J J J J _ _ J 2 y1.1 (k1+1) y1.2.1 ((l.take k1).map bv++([bv (l.getD k1 0)]++y1.2.2)).toArray ((l.take (k1+1)).map bv) kR kR (Rf l k1 hl y1.2.2 om) (TL l k1 hl om) (Rg l k1 hl y1.2.2 hh1.1 om) hh1.2 3 g5 0 1 1 5 #[bv (l.getD (k1+1) 0)] [bv (l.getD (k1+1) 0)] kR kR kR J (by intro u hu; simp only [List.mem_cons,List.not_mem_nil,or_false] at hu; subst hu; rfl) om (λq2 c2 s2 e2 m2=>?_)
  refine sP (.slice (pA q2) (k1+1+1) c2)<|Sy.nil<|Sy.in_<|Sy.then_<|Sy.region<|sP (iZ (k1+1))<|sS (iZ ((k1+1)+1)) (qad J J J)<|sP (iZ ((k1+1)+1))<|Sy.nil ?_
  exact Sy.againX ((q2,c2,s2)) [true,true,true,false] om (⟨e2,m2⟩) ac4 kR
def pwr (x y:Nat) (i:Bool):List Value:=fws x++(fws y++[Value.bool i])
section
variable {P:Program} {w0:Base} {F:AJ} {L:AA} {o:Oper}
theorem Quiet.read {v:Value} (h:∀ w,St w0 w L→(execOp (evF F) o).run P w=.ok (.value v) w):Quiet P w0 F L o v:=λw hw=>by
 unfold Cr; rw [h w hw]; exact ⟨rfl,Gr.refl _⟩
end
theorem Ji {w:World} {A:Option Addr} {m:Ak} {c:Nat} (h:Src w A m) (hm:m≠[]) :
  (convert 27 9 (.slice A m.length c)).run Tryz.prog w=.ok (.string ⟨m.toArray⟩) w:=by
 obtain ⟨b,o,rfl,_,hc⟩:=h hm
 refine run_convert_bytes_back w 27 9 5 _ c m Aw uy5 uy9 (λj hj=>?_)
 rw [CC]
 exact hc j _ (List.getElem?_eq_getElem hj)
theorem Jg {w0:Base} {F:AJ} {L:AA} {o:Oper} (A:Option Addr) (m:Ak) (k c:Nat) (x:Operand) (ho:o.op=.convert 27 9 x) (hx:evF F x=.slice A k c) (hm:m.length=k) (hk:k≠0) (hs:Src w0.world A m):Quiet Tryz.prog w0 F L o (.string ⟨m.toArray⟩):=Quiet.read λw hw=>by
 have h:=Ji (c:=c) (hs.below hw.below) (by intro e; rw [e] at hm; exact hk hm.symm)
 rw [hm] at h
 unfold execOp
 simp only [ho,hx,Sem.run_bind,h,Result.andThen_ok,Sem.run_pure]
theorem Jh {w0:Base} {F:AJ} {L:AA} {o:Oper} (i g:Nat) (t:TypeId) (m:Ak) (sp:List Value) (k c:Nat) (x:Operand) (ho:o.op=.convert 27 9 x) (hx:evF F x=.slice (pA g) k c) (hL:L[i]? = some (g,t,(m.map bv++sp).toArray)) (hm:m.length=k) (hk:k≠0):Quiet Tryz.prog w0 F L o (.string ⟨m.toArray⟩):=Quiet.read λw hw=>by
 have hb:=hw.get hL
 have hs:Src w (pA g) m:=λ_=>⟨g,0,rfl,hb.lt,λj u hj=>by
  rw [Nat.zero_add]
  refine (hb.cell j).trans ?_
  have hl:=(List.getElem?_eq_some_iff.1 hj).1
  rw [List.getElem?_toArray,List.getElem?_append_left (by rw [List.length_map]; exact hl),List.getElem?_map,hj]
  rfl⟩
 have h:=Ji (c:=c) hs (by intro e; rw [e] at hm; exact hk hm.symm)
 rw [hm] at h
 unfold execOp
 simp only [ho,hx,Sem.run_bind,h,Result.andThen_ok,Sem.run_pure]
theorem GR (w:World) (F:AJ) (o:Oper) (x y:Operand) (a b:Ak) {yt:TypeId} (ho:o.op=.binOp .eql 9 x y yt) (hx:evF F x=.string ⟨a.toArray⟩) (hy:evF F y=.string ⟨b.toArray⟩):(execOp (evF F) o).run Tryz.prog w=.ok (.value (.bool (decide (a=b)))) w:=by
 have h1:(eqGuard .eql 9 x y (.string ⟨a.toArray⟩) (.string ⟨b.toArray⟩)).run Tryz.prog w=.ok () w:=by go_simp
 have h2:(binOp .eql 9 (.string ⟨a.toArray⟩) (.string ⟨b.toArray⟩)).run Tryz.prog w=.ok (.bool (decide (a=b))) w:=by
  by_cases e:a=b <;> simp [go_sem,ByteArray.toList_eq,e]
 unfold execOp
 simp only [ho,hx,hy,Sem.run_bind,h1,h2,Result.andThen_ok,Sem.run_pure]
theorem TG (b:UInt8) (t:Ak):Cz (b::t)=Ec.neg (Ar t)∨Cz (b::t)=Ar t:=by
 unfold Cz
 split
 ·exact .inl J
 ·exact .inr J
theorem RT (w:World) (A:Option Addr) (n c:Nat) (hn:n≠33):AL 222 #[.slice A n c] w (Ai w (.tuple #[pv 0 0 true,.bool false])):=by
 refine Sy.enter (args:=[.slice A n c]) Tryz.func222 J kL<|sC<|sM 57 (pcs 0 0 false) (λg0=>?_)
 refine sP (.bool false)<|sG<|Sy.seq<|sC<|sP (.slice A n c)<|sP (.int .i64 (n:Int))<|sS (.bool true) (Quiet.pure (λw=>NJ w _ _ _ _ n hn J J J))<|sG<|sT<|sC<|sS (pv 0 0 true) (qf EO)<|sw 0 J (pcs 0 0 true) (wA J)<|sP (.bool false)<|sG<|Sy.ret<|Sy.then_ret ?_
 exact Sy.ret2 (v:=pv 0 0 true) (u:=.bool false) rfl (.inl (Res.cell (ty':=57) g0 0 (pcs 0 0 true) _ kR kR Am J kR kR)) (.inl (show _=_ by kernel_rfl))
theorem T_ {A B:List Value} {x v:Value} {n:Nat} (h:n=A.length):((A++x::B).toArray).setIfInBounds n v=(A++v::B).toArray:=by
 subst h
 simp
theorem TA (w:World) (ga oa cb:Nat) (o0:UInt8) (tl:Ak) (hl:tl.length=32) (hs:SrcL w ga oa (o0::tl)) (hsr:Src w (some ⟨ga,oa,none⟩) (o0::tl)) (hcap:33≤cb):AL 222 #[.slice (some ⟨ga,oa,none⟩) 33 cb] w (Ai w (.tuple #[ptv (decP (o0::tl)),.bool (decOk (o0::tl))])):=by
 obtain ⟨px,py,pi,lpx,lpy,ep,dp,rp⟩:=Hn (Ar tl) (DM tl)
 obtain ⟨nx,ny,ni,lnx,lny,en,dn,rn⟩:=Hn (Ec.neg (Ar tl)) (Ec.On.neg (DM tl))
 obtain ⟨kb,hkb⟩:=xE (Bf tl)
 have cL:∀ w,AL 248 #[.agg (tl.map bv).toArray] w (Ai w (.tuple #[pv px py pi,.bool kb])):=λw=>by
  have h:=Ou w _ hl
  rw [ep, ← hkb] at h
  exact h
 have cN:∀ w,AL 249 #[pv px py pi] w (Ai w (pv nx ny ni)):=λw=>by
  have h:=Oh w px py pi lpx lpy
  rw [dp,en] at h
  exact h
 have cE0:∀ w,AL 217 #[pv 0 0 true] w (BD w (λvq Mq=>∃ (g:Nat) (sp:List Value) (cap:Nat),vq=.slice (pA g) 33 cap∧Mq=[(g,5,((encS none).map bv++sp).toArray)])):=λw=>by
  have h:=Ik w 0 0 true dZ dZ
  rw [LM] at h
  exact h
 have cE1:∀ w,AL 217 #[pv px py pi] w (BD w (λvq Mq=>∃ (g:Nat) (sp:List Value) (cap:Nat),vq=.slice (pA g) 33 cap∧Mq=[(g,5,((encS (Ar tl)).map bv++sp).toArray)])):=λw=>by
  have h:=Ik w px py pi lpx lpy
  rw [dp] at h
  exact h
 have cE2:∀ w,AL 217 #[pv nx ny ni] w (BD w (λvq Mq=>∃ (g:Nat) (sp:List Value) (cap:Nat),vq=.slice (pA g) 33 cap∧Mq=[(g,5,((encS (Ec.neg (Ar tl))).map bv++sp).toArray)])):=λw=>by
  have h:=Ik w nx ny ni lnx lny
  rw [dn] at h
  exact h
 refine Sy.enter (args:=[.slice (some ⟨ga,oa,none⟩) 33 cb]) Tryz.func222 J kL<|sC<|sM 57 (pcs 0 0 false) (λg0=>?_)
 refine sP (.bool false)<|sG<|Sy.seq<|sC<|sP (.slice (some ⟨ga,oa,none⟩) 33 cb)<|sP (.int .i64 33)<|sP (.bool false)<|sG<|sU<|Sy.skip<|sB<|sM 210 (List.replicate 32 (Value.int .u8 0)).toArray (λg1=>?_)
 refine sG<|Sy.seq<|sC<|sP (.int .i64 0)<|sG<|Sy.block<|Sy.loopT (Y:=Unit) 32 (λi _=>[(0,.slice (some ⟨ga,oa,none⟩) 33 cb),(2,pT g0 0),(4,pT g1 0),(5,.int .i64 (i:Int))]) (λi _=>[(g0,57,(pcs 0 0 false)),(g1,210,((tl.map bv).take i++List.replicate (32 - i) (Value.int .u8 0)).toArray)]) (λ_ _=>True) () trivial ac4 (λ_ h=>h) (λi _ hi _=>?_)
 dsimp only
 refine Sy.seq<|sC ?_
 obtain ⟨b0,hb0⟩:=xE (decide (i<32))
 refine sP (.int .i64 (i:Int))<|sS (.bool b0) (qls J J J hb0)<|sG ?_
 cases b0
 case' true =>
  have l2:=dY hb0
  obtain ⟨u,hd⟩:∃ u,tl.drop i=u::tl.drop (i+1):=⟨_,List.drop_eq_getElem_cons om⟩
  have hu:tl[i]? = some u:=by rw [← List.head?_drop,hd]; rfl
  have hz:List.replicate (32 - i) (Value.int .u8 0)=.int .u8 0::List.replicate (32 - (i+1)) (.int .u8 0):=by
   rw [show 32 - i=(32 - (i+1))+1 by omega]; rfl
  have hA:((tl.map bv).take i).length=i:=by rw [List.length_take,List.length_map,hl]; omega
  have hn:(tl.map bv).take (i+1)++List.replicate (32 - (i+1)) (Value.int .u8 0)=(tl.map bv).take i++(bv u::List.replicate (32 - (i+1)) (.int .u8 0)):=by
   rw [List.take_add_one,List.getElem?_map,hu,List.append_assoc]; rfl
  rw [hz]
  refine sT<|Sy.skip<|Sy.then_<|Sy.seq<|Sy.block<|Sy.region<|sP (.int .i64 (i:Int))<|sP (.slice (some ⟨ga,oa,none⟩) 33 cb)<|sP (.int .i64 (i:Int))<|sS (iZ (i+1)) (qad J J J)<|sS (.pointer (some ⟨ga,oa+(i+1),none⟩)) (Quiet.pure (λw=>Ii 27 _ _ ga oa 33 cb (i+1) rfl J J kR kF om w))<|sS (bv u) (Quiet.thereOne ga (oa+(i+1)) 5 _ _ J J hs.1 _ (Mp hs (i+1) _ (by rw [List.drop_succ_cons,hd]; rfl)) uy5 J)<|sS (.pointer (some ⟨g1,0+i*1,none⟩)) (Quiet.pure (BA 210 _ _ _ g1 0 _ i 1 .i64 J J J FV kF l2))<|sw 1 J ((tl.map bv).take i++(bv u::List.replicate (32 - (i+1)) (Value.int .u8 0))).toArray (Writes.one (0+i*1) 5 (bv u) _ _ J J J kR J J (by rw [List.size_toArray,List.length_append,hA]; simp) (T_ (by rw [hA]; omega)))<|Sy.nil<|Sy.in_<|Sy.then_<|Sy.region<|sP (.int .i64 (i:Int))<|sS (iZ (i+1)) (qad J J J)<|sP (iZ (i+1))<|Sy.nil ?_
  exact Sy.againT () l2 trivial ac4 (λw h=>by rw [hn]; exact h)
 have l3:=dN hb0
 obtain rfl:i=32:=om
 have hT:(tl.map bv).take 32++List.replicate (32 - 32) (Value.int .u8 0)=tl.map bv:=by
  rw [List.take_of_length_le (by rw [List.length_map,hl]; exact Nat.le_refl _)]; exact List.append_nil _
 rw [hT]
 refine sU<|Sy.exit<|Sy.then_exit<|Sy.then_exit<|Sy.in_exit<|sB<|sS (.agg (tl.map bv).toArray) (Quiet.mid 1 g1 0 32 210 210 (tl.map bv) (tl.map bv) _ _ J kR J FV J kR (by rw [List.drop_zero,List.take_of_length_le (by rw [List.length_map,hl]; exact Nat.le_refl _)]) (by rw [List.length_map,hl]; exact Nat.le_refl _))<|sS (.tuple #[pv px py pi,.bool kb]) (qf cL)<|sP (.tuple #[pv px py pi,.bool kb])<|sP (pv px py pi)<|sP (.bool kb)<|sM 57 (pcs 0 0 false) (λg2=>?_)
 refine sw 2 J (pcs px py pi) (wA J)<|sP (.bool kb)<|sH (λj=>false) ?_
 refine sD 0 J (pv 0 0 true) (qf EO)<|sD 1 J (pv px py pi) (qk 2 0 9 J J Am)<|sD 2 J (pv px py pi) (qk 2 0 9 J J Am)<|sD 3 J (pv nx ny ni) (qf cN)<|Sy.makeD 4 J kR kR 57 (pwr 0 0 true++(pwr px py pi++(pwr nx ny ni))).toArray (λg=>.slice (pA g) 3 3) kF (λg3=>?_)
 refine sZ 5 J (.slice (pA g3) 3 3)<|sI<|Sy.seq<|sC<|sP (.int .i64 0)<|sG<|Sy.block<|Sy.loopN 4<|Sy.tidyR (G:=[(0,.slice (some ⟨ga,oa,none⟩) 33 cb),(2,pT g0 0),(8,.slice (pA g3) 3 3),(9,.int .i64 0)]) (M:=[(g0,57,(pcs 0 0 false)),(g3,57,(pwr 0 0 true++(pwr px py pi++(pwr nx ny ni))).toArray)]) [true,false,false,true] kR ac4<|Sy.round<|Sy.seq<|sC<|sP (.int .i64 0)<|sP (.bool true)<|sG<|sT<|Sy.skip<|Sy.then_<|Sy.seq<|Sy.block<|Sy.seq<|Sy.regionD (λj=>false) kR ?_
 refine sZ 0 J (.slice (pA g3) 3 3)<|sZ 1 J (.int .i64 0)<|sZ 2 J (pT g3 0)<|sD 3 J (pv 0 0 true) (qk 1 0 9 J J Am)<|sZ 6 J (.slice (some ⟨ga,oa,none⟩) 33 cb)<|sD 7 J (.string ⟨((o0::tl)).toArray⟩) (Jg (some ⟨ga,oa,none⟩) (o0::tl) 33 cb _ J J (by rw [List.length_cons,hl]) dZ hsr)<|Sy.callND 4 J kR kR 217 #[pv 0 0 true] kF (λvq Mq=>∃ (g:Nat) (sp:List Value) (cap:Nat),vq=.slice (pA g) 33 cap∧Mq=[(g,5,((encS none).map bv++sp).toArray)]) (λw _=>cE0 w) (λvq Mq hR0=>?_)
 obtain ⟨gq1,spq1,cpq1,rfl,rfl⟩:=hR0
 refine sD 5 J (.string ⟨((encS none)).toArray⟩) (Jh 2 gq1 5 (encS none) spq1 33 cpq1 _ J J kR (encS_length _) dZ) ?_
 obtain ⟨b1,hb1⟩:=xE (decide ((encS none)=(o0::tl)))
 refine sD 8 J (.bool b1) (Quiet.pure (λw=>by rw [hb1]; exact GR w _ _ _ _ _ _ J J J))<|sI ?_
 cases b1
 ·refine sU<|Sy.skip<|Sy.in_<|Sy.then_<|Sy.region ?_
  refine sP (.int .i64 0)<|sP (.int .i64 1)<|sP (.int .i64 1)<|Sy.nil<|Sy.again<|Sy.tidyR (G:=[(0,.slice (some ⟨ga,oa,none⟩) 33 cb),(2,pT g0 0),(8,.slice (pA g3) 3 3),(9,.int .i64 1)]) (M:=[(g0,57,(pcs 0 0 false)),(g3,57,(pwr 0 0 true++(pwr px py pi++(pwr nx ny ni))).toArray)]) [true,true,false] kR ac4<|Sy.round<|Sy.seq<|sC<|sP (.int .i64 1)<|sP (.bool true)<|sG<|sT<|Sy.skip<|Sy.then_<|Sy.seq<|Sy.block<|Sy.seq<|Sy.regionD (λj=>false) kR<|sZ 0 J (.slice (pA g3) 3 3)<|sZ 1 J (.int .i64 1)<|sZ 2 J (pT g3 9)<|sD 3 J (pv px py pi) (qk 1 9 9 J J Am)<|sZ 6 J (.slice (some ⟨ga,oa,none⟩) 33 cb)<|sD 7 J (.string ⟨((o0::tl)).toArray⟩) (Jg (some ⟨ga,oa,none⟩) (o0::tl) 33 cb _ J J (by rw [List.length_cons,hl]) dZ hsr)<|Sy.callND 4 J kR kR 217 #[pv px py pi] kF (λvq Mq=>∃ (g:Nat) (sp:List Value) (cap:Nat),vq=.slice (pA g) 33 cap∧Mq=[(g,5,((encS (Ar tl)).map bv++sp).toArray)]) (λw _=>cE1 w) (λvq Mq hR0=>?_)
  obtain ⟨gq2,spq2,cpq2,rfl,rfl⟩:=hR0
  refine sD 5 J (.string ⟨((encS (Ar tl))).toArray⟩) (Jh 2 gq2 5 (encS (Ar tl)) spq2 33 cpq2 _ J J kR (encS_length _) dZ) ?_
  obtain ⟨b2,hb2⟩:=xE (decide ((encS (Ar tl))=(o0::tl)))
  refine sD 8 J (.bool b2) (Quiet.pure (λw=>by rw [hb2]; exact GR w _ _ _ _ _ _ J J J))<|sI ?_
  cases b2
  ·refine sU<|Sy.skip<|Sy.in_<|Sy.then_<|Sy.region ?_
   refine sP (.int .i64 1)<|sP (.int .i64 2)<|sP (.int .i64 2)<|Sy.nil<|Sy.again<|Sy.tidyR (G:=[(0,.slice (some ⟨ga,oa,none⟩) 33 cb),(2,pT g0 0),(8,.slice (pA g3) 3 3),(9,.int .i64 2)]) (M:=[(g0,57,(pcs 0 0 false)),(g3,57,(pwr 0 0 true++(pwr px py pi++(pwr nx ny ni))).toArray)]) [true,true,false] kR ac4<|Sy.round<|Sy.seq<|sC<|sP (.int .i64 2)<|sP (.bool true)<|sG<|sT<|Sy.skip<|Sy.then_<|Sy.seq<|Sy.block<|Sy.seq<|Sy.regionD (λj=>false) kR<|sZ 0 J (.slice (pA g3) 3 3)<|sZ 1 J (.int .i64 2)<|sZ 2 J (pT g3 18)<|sD 3 J (pv nx ny ni) (qk 1 18 9 J J Am)<|sZ 6 J (.slice (some ⟨ga,oa,none⟩) 33 cb)<|sD 7 J (.string ⟨((o0::tl)).toArray⟩) (Jg (some ⟨ga,oa,none⟩) (o0::tl) 33 cb _ J J (by rw [List.length_cons,hl]) dZ hsr)<|Sy.callND 4 J kR kR 217 #[pv nx ny ni] kF (λvq Mq=>∃ (g:Nat) (sp:List Value) (cap:Nat),vq=.slice (pA g) 33 cap∧Mq=[(g,5,((encS (Ec.neg (Ar tl))).map bv++sp).toArray)]) (λw _=>cE2 w) (λvq Mq hR0=>?_)
   obtain ⟨gq3,spq3,cpq3,rfl,rfl⟩:=hR0
   refine sD 5 J (.string ⟨((encS (Ec.neg (Ar tl)))).toArray⟩) (Jh 2 gq3 5 (encS (Ec.neg (Ar tl))) spq3 33 cpq3 _ J J kR (encS_length _) dZ) ?_
   obtain ⟨b3,hb3⟩:=xE (decide ((encS (Ec.neg (Ar tl)))=(o0::tl)))
   refine sD 8 J (.bool b3) (Quiet.pure (λw=>by rw [hb3]; exact GR w _ _ _ _ _ _ J J J))<|sI ?_
   cases b3
   ·refine sU<|Sy.skip<|Sy.in_<|Sy.then_<|Sy.region ?_
    refine sP (.int .i64 2)<|sP (.int .i64 3)<|sP (.int .i64 3)<|Sy.nil<|Sy.again<|Sy.tidyR (G:=[(0,.slice (some ⟨ga,oa,none⟩) 33 cb),(2,pT g0 0),(8,.slice (pA g3) 3 3),(9,.int .i64 3)]) (M:=[(g0,57,(pcs 0 0 false)),(g3,57,(pwr 0 0 true++(pwr px py pi++(pwr nx ny ni))).toArray)]) [true,true,false] kR ac4<|Sy.round<|Sy.seq<|sC<|sP (.int .i64 3)<|sP (.bool false)<|sG<|sU<|Sy.exit<|Sy.then_exit<|Sy.then_exit<|Sy.in_exit<|sB<|sS (pv 0 0 true) (qf EO)<|sw 0 J (pcs 0 0 true) (wA J)<|sP (.bool false)<|sG<|Sy.ret ?_
    rw [show (.tuple #[ptv (decP (o0::tl)),.bool (decOk (o0::tl))]:Value)=.tuple #[pv 0 0 true,.bool false] from by
     have hd:decOk (o0::tl)=false:=by
      unfold decOk
      refine decide_eq_false (λk=>?_)
      rcases TG o0 tl with hc | hc
      ·rw [hc] at k
       exact of_decide_eq_false hb3.symm k.2
      ·rw [hc] at k
       exact of_decide_eq_false hb2.symm k.2
     rw [hd,GW hd]; rfl]
    exact Sy.ret2 (v:=pv 0 0 true) (u:=.bool false) rfl (.inl (Res.cell (ty':=57) g0 0 (pcs 0 0 true) _ kR kR Am J kR kR)) (.inl (show _=_ by kernel_rfl))
   ·refine sT<|sC ?_
    refine sP (.slice (pA g3) 3 3)<|sP (.int .i64 2)<|sP (pT g3 18)<|sS (pv nx ny ni) (qk 1 18 9 J J Am)<|sw 0 J (pcs nx ny ni) (wA J)<|sP (.bool true)<|sG<|Sy.ret<|Sy.in_ret<|Sy.then_ret<|Sy.then_ret<|Sy.in_ret<|Sy.then_ret ?_
    rw [show (.tuple #[ptv (decP (o0::tl)),.bool (decOk (o0::tl))]:Value)=.tuple #[pv nx ny ni,.bool true] from by
     have hd:=dec_enc (P:=(Ec.neg (Ar tl))) (Ec.On.neg (DM tl))
     rw [of_decide_eq_true hb3.symm] at hd
     rw [hd.1,hd.2,en]]
    exact Sy.ret2 (v:=pv nx ny ni) (u:=.bool true) rfl (.inl (Res.cell (ty':=57) g0 0 (pcs nx ny ni) _ kR kR Am J kR kR)) (.inl (show _=_ by kernel_rfl))
  ·refine sT<|sC ?_
   refine sP (.slice (pA g3) 3 3)<|sP (.int .i64 1)<|sP (pT g3 9)<|sS (pv px py pi) (qk 1 9 9 J J Am)<|sw 0 J (pcs px py pi) (wA J)<|sP (.bool true)<|sG<|Sy.ret<|Sy.in_ret<|Sy.then_ret<|Sy.then_ret<|Sy.in_ret<|Sy.then_ret ?_
   rw [show (.tuple #[ptv (decP (o0::tl)),.bool (decOk (o0::tl))]:Value)=.tuple #[pv px py pi,.bool true] from by
    have hd:=dec_enc (P:=(Ar tl)) (DM tl)
    rw [of_decide_eq_true hb2.symm] at hd
    rw [hd.1,hd.2,ep]]
   exact Sy.ret2 (v:=pv px py pi) (u:=.bool true) rfl (.inl (Res.cell (ty':=57) g0 0 (pcs px py pi) _ kR kR Am J kR kR)) (.inl (show _=_ by kernel_rfl))
 ·refine sT<|sC ?_
  refine sP (.slice (pA g3) 3 3)<|sP (.int .i64 0)<|sP (pT g3 0)<|sS (pv 0 0 true) (qk 1 0 9 J J Am)<|sw 0 J (pcs 0 0 true) (wA J)<|sP (.bool true)<|sG<|Sy.ret<|Sy.in_ret<|Sy.then_ret<|Sy.then_ret<|Sy.in_ret<|Sy.then_ret ?_
  rw [show (.tuple #[ptv (decP (o0::tl)),.bool (decOk (o0::tl))]:Value)=.tuple #[pv 0 0 true,.bool true] from by
   have hd:=dec_enc (P:=none) (show Ec.On none from trivial)
   rw [of_decide_eq_true hb1.symm] at hd
   rw [hd.1,hd.2]; rfl]
  exact Sy.ret2 (v:=pv 0 0 true) (u:=.bool true) rfl (.inl (Res.cell (ty':=57) g0 0 (pcs 0 0 true) _ kR kR Am J kR kR)) (.inl (show _=_ by kernel_rfl))
theorem decodeR_any (w:World) (A:Option Addr) (b:Ak) (n c:Nat) (hn:b.length=n) (hs:Src w A b) (hc:n≤c):Calls Tryz.prog 222 #[.slice A n c] w (Ai w (.tuple #[ptv (decP b),.bool (decOk b)])):=by
 by_cases h:n=33
 ·subst h
  have hs':=hs
  obtain ⟨ga,oa,rfl,hl,hcell⟩:=hs (by intro e; rw [e] at hn; cases hn)
  obtain ⟨o0,tl,rfl⟩:∃ x l,b=x::l:=by
   cases b with
   | nil=>cases hn
   | cons x l=>exact ⟨x,l,rfl⟩
  exact TA w ga oa c o0 tl (by rw [List.length_cons] at hn; omega) (SrcL.of hl hcell) hs' hc
 ·have hd:decOk b=false:=by unfold decOk; exact decide_eq_false (λk=>h (hn ▸ k.1))
  rw [hd,GW hd]
  exact RT w A n c h
end Cu
end
section
namespace Wr
open Go.RowKit Sy
theorem Mk (ok bad:Bool) (b x:Byt) (k:Nat) (h:x.length≤k):Wrote ok x k bad b (bad || !ok) (b++x):=by
 have q:=(Wrote.must ok bad b).then_ (Wrote.raw x (bad || !ok) b h)
 rw [Bool.and_true,List.nil_append,Nat.zero_add] at q
 exact q
theorem IJ (w0:Base) (gw:Nat) (bad:Bool) (s:Slc) (R:AA) (b:Byt) (p:MPt) (h1:p.x<Cu.K4) (h2:p.y<Cu.K4) (hb:BS s b) (hl:b.length+33≤70368744177000) (w:World) (hw:St w0 w (WB gw bad s R)) :
  AL 178 #[ptr gw,.agg (lPT p).toArray] w (AQ w0 (Wd gw R (Et p) (CN p) 33 bad b)):=by
 refine Sy.enterT (args:=[ptr gw,.agg (lPT p).toArray]) hw Tryz.func178 J kL<|sC<|sM 57 (lPT p).toArray (λg3=>?_) kR (λw=>Aq J J kZ (Cd p) w)
 refine Sy.permS (M:=WB gw bad s (R++[(g3,57,(lPT p).toArray)])) (List.Perm.of_eq (by simp only [List.append_assoc])) ?_
 have X0:XAt (rdC w0.inn [(g3,57,(lPT p).toArray)]) g3 0 ((lPT p)):=λi u hu=>.inr ⟨_,_,List.mem_singleton.2 J,by rw [Nat.zero_add,List.getElem?_toArray]; exact hu⟩
 have X8:XAt (rdC w0.inn [(g3,57,(lPT p).toArray)]) g3 8 [.bool p.i]:=(X0.right (n:=4) rfl).right (n:=4) rfl
 obtain ⟨b1,hb1⟩:=xE (Cu.rightB p.x p.y p.i)
 obtain ⟨ok,hok⟩:=xE (Et p)
 have e:ok=(b1 && !p.i):=by rw [hok,hb1]; rfl
 refine sA<|sp J<|sS (.agg (lPT p).toArray) (BQ (R:=[(g3,57,(lPT p).toArray)]) (g:=g3) (f:=0) (k:=9) (cs:=lPT p) X0 (λy hy=>Aj (List.mem_append_right R hy)) (Cd p) rfl Am)<|sS (.bool b1) (qg (λw hw=>by rw [hb1]; exact Cu.rightR_b w _ _ _ h1 h2))<|sp J ?_
 rw [← hok]
 cases b1
 case' false =>
  obtain rfl:ok=false:=e
  refine sN<|sN<|sN<|sP (.bool false)<|Sy.callT (λw hw=>A0 w0.inn gw bad false s (R++[(g3,57,(lPT p).toArray)]) w hw) (λu M hM=>?_)
 case' true =>
  obtain rfl:ok=!p.i:=e
  refine sP (pT g3 8)<|sS (.bool p.i) (AK (R:=[(g3,57,(lPT p).toArray)]) (g:=g3) (f:=8) X8.one (λy hy=>Aj (List.mem_append_right R hy)) J uy4)<|sP (.bool (!p.i))<|sP (.bool (!p.i))<|Sy.callT (λw hw=>A0 w0.inn gw bad (!p.i) s (R++[(g3,57,(lPT p).toArray)]) w hw) (λu M hM=>?_)
 all_goals
  subst hM
  refine Sy.nil<|Sy.then_<|Sy.region<|sp J<|sS (.agg (lPT p).toArray) (BQ (R:=[(g3,57,(lPT p).toArray)]) (g:=g3) (f:=0) (k:=9) (cs:=lPT p) X0 (λy hy=>Aj (List.mem_append_right R hy)) (Cd p) rfl Am)<|Sy.callN kR 217 #[Cu.pv p.x p.y p.i] kF _ (λw' _=>Cu.encW_any w' p.x p.y p.i h1 h2) (λu M hM=>?_)
  obtain ⟨g,sq,cap,rfl,⟨hc1,hc2⟩,rfl⟩:=hM
 ·have hB:BytR (rdC w0.inn ((R++[(g3,57,(lPT p).toArray)])++[(g,5,((CN p).map bv++sq).toArray)])) (.slice (pA g) 33 cap) (CN p):=⟨_,_,_,rfl,by first | exact CL p | exact (CL p).symm,hc1,hc2,λ_=>⟨g,0,rfl,λj y hj=>.inr ⟨5,_,List.mem_append_right _ (List.mem_singleton.2 J),by rw [Nat.zero_add,List.getElem?_toArray,List.getElem?_append_left (by rw [List.length_map]; exact (List.getElem?_eq_some_iff.1 hj).1),List.getElem?_map,hj]; rfl⟩⟩⟩
  refine Sy.permS (M:=WB gw (bad || !(!p.i)) s ((R++[(g3,57,(lPT p).toArray)])++[(g,5,((CN p).map bv++sq).toArray)])) (List.Perm.of_eq (by simp only [List.append_assoc]; rfl))<|Sy.callT (λw hw=>B_ w0.inn gw (bad || !(!p.i)) s ((R++[(g3,57,(lPT p).toArray)])++[(g,5,((CN p).map bv++sq).toArray)]) b _ (CN p) hb hB (by rw [CL]; omega) w hw) (λv M hM=>?_)
  obtain ⟨r,hr,rfl⟩:=hM
  refine Sy.nil ?_
  exact Sy.retT0 J (WB gw (bad || !(!p.i)) r R) (λ_ h=>Bo (by simpa only [List.append_assoc] using h)) (λ_=>⟨r,bad || !(!p.i),b++CN p,Mk (!p.i) bad b (CN p) 33 (by rw [CL]; exact Nat.le_refl _),hr,rfl⟩)
 ·have hB:BytR (rdC w0.inn ((R++[(g3,57,(lPT p).toArray)])++[(g,5,((CN p).map bv++sq).toArray)])) (.slice (pA g) 33 cap) (CN p):=⟨_,_,_,rfl,by first | exact CL p | exact (CL p).symm,hc1,hc2,λ_=>⟨g,0,rfl,λj y hj=>.inr ⟨5,_,List.mem_append_right _ (List.mem_singleton.2 J),by rw [Nat.zero_add,List.getElem?_toArray,List.getElem?_append_left (by rw [List.length_map]; exact (List.getElem?_eq_some_iff.1 hj).1),List.getElem?_map,hj]; rfl⟩⟩⟩
  refine Sy.permS (M:=WB gw (bad || !(false)) s ((R++[(g3,57,(lPT p).toArray)])++[(g,5,((CN p).map bv++sq).toArray)])) (List.Perm.of_eq (by simp only [List.append_assoc]; rfl))<|Sy.callT (λw hw=>B_ w0.inn gw (bad || !(false)) s ((R++[(g3,57,(lPT p).toArray)])++[(g,5,((CN p).map bv++sq).toArray)]) b _ (CN p) hb hB (by rw [CL]; omega) w hw) (λv M hM=>?_)
  obtain ⟨r,hr,rfl⟩:=hM
  refine Sy.nil ?_
  exact Sy.retT0 J (WB gw (bad || !(false)) r R) (λ_ h=>Bo (by simpa only [List.append_assoc] using h)) (λ_=>⟨r,bad || !(false),b++CN p,Mk false bad b (CN p) 33 (by rw [CL]; exact Nat.le_refl _),hr,rfl⟩)
theorem PO (w0:Base) (gw:Nat) (bad:Bool) (s:Slc) (R:AA) (b:Byt) (t:MTag) (h1:t.id.length=32) (h2:t.pt.x<Cu.K4) (h3:t.pt.y<Cu.K4) (hb:BS s b) (hl:b.length+34≤70368744177000) (w:World) (hw:St w0 w (WB gw bad s R)) :
  AL 123 #[ptr gw,.agg (cTG t).toArray] w (AQ w0 (Wd gw R (Of t) (Ij t) 34 bad b)):=by
 obtain ⟨bl,id,p⟩:=t
 dsimp only at h1 h2 h3
 have e1:(id.map bv).length=32:=by rw [List.length_map,h1]
 have hlen:(cTG ⟨bl,id,p⟩).length=42:=Ee h1
 refine Sy.enterT (args:=[ptr gw,.agg (cTG ⟨bl,id,p⟩).toArray]) hw Tryz.func123 J kL<|sC<|sM 59 (cTG ⟨bl,id,p⟩).toArray (λg3=>?_) kR (λw=>Aq J J kZ hlen w)
 refine Sy.permS (M:=WB gw bad s (R++[(g3,59,(cTG ⟨bl,id,p⟩).toArray)])) (List.Perm.of_eq (by simp only [List.append_assoc])) ?_
 have X0:XAt (rdC w0.inn [(g3,59,(cTG ⟨bl,id,p⟩).toArray)]) g3 0 ((cTG ⟨bl,id,p⟩)):=λi u hu=>.inr ⟨_,_,List.mem_singleton.2 J,by rw [Nat.zero_add,List.getElem?_toArray]; exact hu⟩
 have Y1:XAt (rdC w0.inn [(g3,59,(cTG ⟨bl,id,p⟩).toArray)]) g3 1 (id.map bv++lPT p):=X0.right (n:=1) rfl
 have X1:=Y1.left
 have X2:XAt (rdC w0.inn [(g3,59,(cTG ⟨bl,id,p⟩).toArray)]) g3 33 (lPT p):=Y1.right e1
 have q0:=Wrote.raw [trB bl] bad b (k:=1) (Nat.le_refl _)
 have l0:(b++[trB bl]).length=b.length+1:=by rw [List.length_append]; rfl
 refine sA<|sp J<|sP (pT g3 0)<|sS (.bool bl) (AK (R:=[(g3,59,(cTG ⟨bl,id,p⟩).toArray)]) (g:=g3) (f:=0) X0.one (λy hy=>Aj (List.mem_append_right R hy)) J uy4)<|Sy.callT (λw hw=>Fk w0.inn gw bad s (R++[(g3,59,(cTG ⟨bl,id,p⟩).toArray)]) b bl hb om w hw) (λv M hM=>?_)
 obtain ⟨r,k1,rfl⟩:=hM
 refine sG<|Sy.seq<|sC<|sP (pT g3 0)<|sS (.bool bl) (AK (R:=[(g3,59,(cTG ⟨bl,id,p⟩).toArray)]) (g:=g3) (f:=0) X0.one (λy hy=>Aj (List.mem_append_right R hy)) J uy4)<|sG ?_
 cases bl
 case' true =>
  refine sT<|sC ?_
  obtain ⟨ok,hok⟩:=xE (decide (id=z32))
  refine sp J<|sP (pT g3 1)<|sS (.agg (id.map bv).toArray) (BQ (R:=[(g3,59,(cTG ⟨true,id,p⟩).toArray)]) (g:=g3) (f:=1) (k:=32) (cs:=id.map bv) X1 (λy hy=>Aj (List.mem_append_right R hy)) e1 J Dd)<|sP (.agg (z32.map bv).toArray)<|sS (.bool ok) (Quiet.pure (λw=>by rw [hok]; exact Ed w _ _ _ _ id z32 h1 J J J J))<|Sy.callT (λw hw=>A0 w0.inn gw bad ok r (R++[(g3,59,(cTG ⟨true,id,p⟩).toArray)]) w hw) (λu M hM=>?_)
  subst hM
  refine sA<|sp J<|sP (pT g3 33)<|sS (.agg (lPT p).toArray) (BQ (R:=[(g3,59,(cTG ⟨true,id,p⟩).toArray)]) (g:=g3) (f:=33) (k:=9) (cs:=lPT p) X2 (λy hy=>Aj (List.mem_append_right R hy)) (Cd p) rfl Am)<|Sy.callT (λw hw=>IJ w0.inn gw (bad || !ok) r (R++[(g3,59,(cTG ⟨true,id,p⟩).toArray)]) (b++[trB true]) p h2 h3 k1 om w hw) (λu M hM=>?_)
  obtain ⟨r2,bad2,b2,q2,k2,rfl⟩:=hM
  have q:=q0.then_ ((Wrote.must ok bad (b++[trB true])).then_ q2)
  rw [Bool.true_and,List.nil_append,Nat.zero_add,Bool.and_comm,hok] at q
  refine sG<|Sy.ret<|Sy.then_ret ?_
  exact Sy.retT0 J (WB gw bad2 r2 R) (λ_ h=>Bo h) (λ_=>⟨r2,bad2,b2,q,k2,rfl⟩)
 refine sU<|Sy.skip<|sB ?_
 obtain ⟨ok,hok⟩:=xE (Ff p)
 refine sp J<|sP (pT g3 33)<|sS (Cu.pv p.x p.y p.i) (BQ (R:=[(g3,59,(cTG ⟨false,id,p⟩).toArray)]) (g:=g3) (f:=33) (k:=9) (cs:=lPT p) X2 (λy hy=>Aj (List.mem_append_right R hy)) (Cd p) rfl Am)<|sP (Cu.pv 0 0 false)<|sS (.bool ok) (Quiet.pure (λw=>by rw [hok]; exact Cu.eql_pt w _ _ _ _ p.x p.y p.i 0 0 false J J J h2 h3 dZ dZ))<|Sy.callT (λw hw=>A0 w0.inn gw bad ok r (R++[(g3,59,(cTG ⟨false,id,p⟩).toArray)]) w hw) (λu M hM=>?_)
 subst hM
 refine Sy.nil<|Sy.then_<|Sy.region<|sp J<|sP (pT g3 1)<|sS (.agg (id.map bv).toArray) (BQ (R:=[(g3,59,(cTG ⟨false,id,p⟩).toArray)]) (g:=g3) (f:=1) (k:=32) (cs:=id.map bv) X1 (λy hy=>Aj (List.mem_append_right R hy)) e1 J Dd)<|Sy.callT (λw hw=>EL w0.inn gw (bad || !ok) r (R++[(g3,59,(cTG ⟨false,id,p⟩).toArray)]) (b++[trB false]) id h1 k1 om w hw) (λu M hM=>?_)
 obtain ⟨r2,k2,rfl⟩:=hM
 refine Sy.nil ?_
 have q2:=Wrote.raw id (bad || !ok) (b++[trB false]) (k:=33) om
 have q:=q0.then_ ((Wrote.must ok bad (b++[trB false])).then_ q2)
 rw [Bool.true_and,Bool.and_true,List.nil_append,Nat.zero_add,hok] at q
 exact Sy.retT0 J (WB gw (bad || !ok) r2 R) (λ_ h=>Bo h) (λ_=>⟨r2,bad || !ok,_,by rw [hok]; exact q,k2,rfl⟩)
theorem Hb (w0:Base) (gw:Nat) (bad:Bool) (s:Slc) (R:AA) (b:Byt) (t:MAmt) (h1:t.value<18446744073709551616) (h2:t.pt.x<Cu.K4) (h3:t.pt.y<Cu.K4) (hb:BS s b) (hl:b.length+34≤70368744177000) (w:World) (hw:St w0 w (WB gw bad s R)) :
  AL 124 #[ptr gw,.agg (cAM t).toArray] w (AQ w0 (Wd gw R (Ly t) (Ha t) 34 bad b)):=by
 obtain ⟨bl,id,p⟩:=t
 dsimp only at h1 h2 h3
 have hlen:(cAM ⟨bl,id,p⟩).length=11:=rfl
 refine Sy.enterT (args:=[ptr gw,.agg (cAM ⟨bl,id,p⟩).toArray]) hw Tryz.func124 J kL<|sC<|sM 61 (cAM ⟨bl,id,p⟩).toArray (λg3=>?_) kR (λw=>Aq J J kZ hlen w)
 refine Sy.permS (M:=WB gw bad s (R++[(g3,61,(cAM ⟨bl,id,p⟩).toArray)])) (List.Perm.of_eq (by simp only [List.append_assoc])) ?_
 have X0:XAt (rdC w0.inn [(g3,61,(cAM ⟨bl,id,p⟩).toArray)]) g3 0 ((cAM ⟨bl,id,p⟩)):=λi u hu=>.inr ⟨_,_,List.mem_singleton.2 J,by rw [Nat.zero_add,List.getElem?_toArray]; exact hu⟩
 have X1:XAt (rdC w0.inn [(g3,61,(cAM ⟨bl,id,p⟩).toArray)]) g3 1 ([uZ (id:Int)]++lPT p):=X0.right (n:=1) rfl
 have X2:XAt (rdC w0.inn [(g3,61,(cAM ⟨bl,id,p⟩).toArray)]) g3 2 (lPT p):=X1.right (n:=1) rfl
 have q0:=Wrote.raw [trB bl] bad b (k:=1) (Nat.le_refl _)
 have l0:(b++[trB bl]).length=b.length+1:=by rw [List.length_append]; rfl
 refine sA<|sp J<|sP (pT g3 0)<|sS (.bool bl) (AK (R:=[(g3,61,(cAM ⟨bl,id,p⟩).toArray)]) (g:=g3) (f:=0) X0.one (λy hy=>Aj (List.mem_append_right R hy)) J uy4)<|Sy.callT (λw hw=>Fk w0.inn gw bad s (R++[(g3,61,(cAM ⟨bl,id,p⟩).toArray)]) b bl hb om w hw) (λv M hM=>?_)
 obtain ⟨r,k1,rfl⟩:=hM
 refine sG<|Sy.seq<|sC<|sP (pT g3 0)<|sS (.bool bl) (AK (R:=[(g3,61,(cAM ⟨bl,id,p⟩).toArray)]) (g:=g3) (f:=0) X0.one (λy hy=>Aj (List.mem_append_right R hy)) J uy4)<|sG ?_
 cases bl
 case' true =>
  refine sT<|sC ?_
  obtain ⟨ok,hok⟩:=xE (decide (id=0))
  refine sp J<|sP (pT g3 1)<|sS (uZ (id:Int)) (AK (R:=[(g3,61,(cAM ⟨true,id,p⟩).toArray)]) (g:=g3) (f:=1) X1.one (λy hy=>Aj (List.mem_append_right R hy)) J CD)<|sS (.bool ok) (Quiet.pure (AE .eql _ _ _ .u64 _ _ _ J J J (Aa _ _ _ _ _ (by rw [hok]; exact decide_eq_decide.2 om))))<|Sy.callT (λw hw=>A0 w0.inn gw bad ok r (R++[(g3,61,(cAM ⟨true,id,p⟩).toArray)]) w hw) (λu M hM=>?_)
  subst hM
  refine sA<|sp J<|sP (pT g3 2)<|sS (.agg (lPT p).toArray) (BQ (R:=[(g3,61,(cAM ⟨true,id,p⟩).toArray)]) (g:=g3) (f:=2) (k:=9) (cs:=lPT p) X2 (λy hy=>Aj (List.mem_append_right R hy)) (Cd p) rfl Am)<|Sy.callT (λw hw=>IJ w0.inn gw (bad || !ok) r (R++[(g3,61,(cAM ⟨true,id,p⟩).toArray)]) (b++[trB true]) p h2 h3 k1 om w hw) (λu M hM=>?_)
  obtain ⟨r2,bad2,b2,q2,k2,rfl⟩:=hM
  have q:=q0.then_ ((Wrote.must ok bad (b++[trB true])).then_ q2)
  rw [Bool.true_and,List.nil_append,Nat.zero_add,Bool.and_comm,hok] at q
  refine sG<|Sy.ret<|Sy.then_ret ?_
  exact Sy.retT0 J (WB gw bad2 r2 R) (λ_ h=>Bo h) (λ_=>⟨r2,bad2,b2,q,k2,rfl⟩)
 refine sU<|Sy.skip<|sB ?_
 obtain ⟨ok,hok⟩:=xE (Ff p)
 refine sp J<|sP (pT g3 2)<|sS (Cu.pv p.x p.y p.i) (BQ (R:=[(g3,61,(cAM ⟨false,id,p⟩).toArray)]) (g:=g3) (f:=2) (k:=9) (cs:=lPT p) X2 (λy hy=>Aj (List.mem_append_right R hy)) (Cd p) rfl Am)<|sP (Cu.pv 0 0 false)<|sS (.bool ok) (Quiet.pure (λw=>by rw [hok]; exact Cu.eql_pt w _ _ _ _ p.x p.y p.i 0 0 false J J J h2 h3 dZ dZ))<|Sy.callT (λw hw=>A0 w0.inn gw bad ok r (R++[(g3,61,(cAM ⟨false,id,p⟩).toArray)]) w hw) (λu M hM=>?_)
 subst hM
 refine Sy.nil<|Sy.then_<|Sy.region<|sp J<|sP (pT g3 1)<|sS (uZ (id:Int)) (AK (R:=[(g3,61,(cAM ⟨false,id,p⟩).toArray)]) (g:=g3) (f:=1) X1.one (λy hy=>Aj (List.mem_append_right R hy)) J CD)<|Sy.callT (λw hw=>GI w0.inn gw (bad || !ok) r (R++[(g3,61,(cAM ⟨false,id,p⟩).toArray)]) (b++[trB false]) id 8 h1 dZ k1 om w hw) (λu M hM=>?_)
 obtain ⟨r2,k2,rfl⟩:=hM
 refine Sy.nil ?_
 have q2:=Wrote.raw (nb 8 id) (bad || !ok) (b++[trB false]) (k:=33) (by rw [B1]; decide)
 have q:=q0.then_ ((Wrote.must ok bad (b++[trB false])).then_ q2)
 rw [Bool.true_and,Bool.and_true,List.nil_append,Nat.zero_add,hok] at q
 exact Sy.retT0 J (WB gw (bad || !ok) r2 R) (λ_ h=>Bo h) (λ_=>⟨r2,bad || !ok,_,by rw [hok]; exact q,k2,rfl⟩)
theorem QE (w0:Base) (gw:Nat) (bad:Bool) (s:Slc) (R:AA) (b:Byt) (x:MOu) (cs:List Value) (hx:Cg (rdW w0.world) cs x) (hb:BS s b) (hl:b.length+D7 x≤70368744160000) (w:World) (hw:St w0 w (WB gw bad s R)) :
  AL 66 #[ptr gw,.agg cs.toArray] w (AQ w0 (Wd gw R (Gq x) (GT x) (D7 x) bad b)):=by
 obtain ⟨z,ta,am,rg,su,nt,sc⟩:=x
 obtain ⟨vr,vs,vn,vc,hcs,h1,h2,h3,h4,h5,h6⟩:=hx
 dsimp only at h1 h2 h3 h4 h5 h6
 unfold D7 at hl
 dsimp only at hl
 have hlen:cs.length=58:=by rw [hcs]; simp only [cOU,List.length_append,Ee h1.1]; rfl
 refine Sy.enterT (args:=[ptr gw,.agg cs.toArray]) hw Tryz.func66 J kL<|sC<|sM 63 cs.toArray (λg3=>?_) kR (λw=>Aq J J kZ hlen w)
 refine Sy.permS (M:=WB gw bad s (R++[(g3,63,cs.toArray)])) (List.Perm.of_eq (by simp only [List.append_assoc])) ?_
 have hX:∀ l,l=cs→XAt (rdC w0.inn [(g3,63,cs.toArray)]) g3 0 l:=λl e i u hu=>.inr ⟨_,_,List.mem_singleton.2 J,by rw [Nat.zero_add,List.getElem?_toArray, ← e]; exact hu⟩
 have X0:XAt (rdC w0.inn [(g3,63,cs.toArray)]) g3 0 ([.int .i64 z]++(cTG ta++(cAM am++([vr]++([vs]++([vn]++([vc]))))))):=hX _ hcs.symm
 have X1:XAt (rdC w0.inn [(g3,63,cs.toArray)]) g3 1 (cTG ta++(cAM am++([vr]++([vs]++([vn]++([vc])))))):=X0.right (n:=1) rfl
 have X2:XAt (rdC w0.inn [(g3,63,cs.toArray)]) g3 43 (cAM am++([vr]++([vs]++([vn]++([vc]))))):=X1.right (Ee h1.1)
 have X3:XAt (rdC w0.inn [(g3,63,cs.toArray)]) g3 54 ([vr]++([vs]++([vn]++([vc])))):=X2.right (n:=11) rfl
 have X4:XAt (rdC w0.inn [(g3,63,cs.toArray)]) g3 55 ([vs]++([vn]++([vc]))):=X3.right (n:=1) rfl
 have X5:XAt (rdC w0.inn [(g3,63,cs.toArray)]) g3 56 ([vn]++([vc])):=X4.right (n:=1) rfl
 have X6:XAt (rdC w0.inn [(g3,63,cs.toArray)]) g3 57 ([vc]):=X5.right (n:=1) rfl
 refine sA<|sp J<|sP (pT g3 0)<|sS (.int .i64 z) (AK (R:=[(g3,63,cs.toArray)]) (g:=g3) (f:=0) X0.one (λy hy=>Aj (List.mem_append_right R hy)) J uy3)<|Sy.callT (λw hw=>Dh w0.inn gw bad s (R++[(g3,63,cs.toArray)]) b 1 4 z hb om w hw) (λu M hM=>?_)
 obtain ⟨s1,bad1,b1,q1,p1,rfl⟩:=hM
 have l1:b1.length≤b.length+1:=q1.len
 refine sA<|sp J<|sP (pT g3 1)<|sS (.agg (cTG ta).toArray) (BQ (R:=[(g3,63,cs.toArray)]) (g:=g3) (f:=1) (k:=42) (cs:=cTG ta) X1.left (λy hy=>Aj (List.mem_append_right R hy)) (Ee h1.1) rfl PH)<|Sy.callT (λw hw=>PO w0.inn gw bad1 s1 (R++[(g3,63,cs.toArray)]) b1 ta h1.1 h1.2.1 h1.2.2 p1 om w hw) (λu M hM=>?_)
 obtain ⟨s2,bad2,b2,q2,p2,rfl⟩:=hM
 have l2:b2.length≤b1.length+34:=q2.len
 refine sA<|sp J<|sP (pT g3 43)<|sS (.agg (cAM am).toArray) (BQ (R:=[(g3,63,cs.toArray)]) (g:=g3) (f:=43) (k:=11) (cs:=cAM am) X2.left (λy hy=>Aj (List.mem_append_right R hy)) J J KQ)<|Sy.callT (λw hw=>Hb w0.inn gw bad2 s2 (R++[(g3,63,cs.toArray)]) b2 am h2.1 h2.2.1 h2.2.2 p2 om w hw) (λu M hM=>?_)
 obtain ⟨s3,bad3,b3,q3,p3,rfl⟩:=hM
 have l3:b3.length≤b2.length+34:=q3.len
 refine sA<|sp J<|sP (pT g3 54)<|sS vr (AK (R:=[(g3,63,cs.toArray)]) (g:=g3) (f:=54) X3.one (λy hy=>Aj (List.mem_append_right R hy)) J Aw)<|Sy.callT (λw hw=>Cb w0.inn gw bad3 s3 (R++[(g3,63,cs.toArray)]) b3 vr rg 6000 dZ p3 h3 om w hw) (λu M hM=>?_)
 obtain ⟨s4,bad4,b4,q4,p4,rfl⟩:=hM
 have l4:b4.length≤b3.length+(9+rg.length):=q4.len
 refine sA<|sp J<|sP (pT g3 55)<|sS vs (AK (R:=[(g3,63,cs.toArray)]) (g:=g3) (f:=55) X4.one (λy hy=>Aj (List.mem_append_right R hy)) J Aw)<|Sy.callT (λw hw=>Cb w0.inn gw bad4 s4 (R++[(g3,63,cs.toArray)]) b4 vs su 6000 dZ p4 h4 om w hw) (λu M hM=>?_)
 obtain ⟨s5,bad5,b5,q5,p5,rfl⟩:=hM
 have l5:b5.length≤b4.length+(9+su.length):=q5.len
 refine sA<|sp J<|sP (pT g3 56)<|sS vn (AK (R:=[(g3,63,cs.toArray)]) (g:=g3) (f:=56) X5.one (λy hy=>Aj (List.mem_append_right R hy)) J Aw)<|Sy.callT (λw hw=>Cb w0.inn gw bad5 s5 (R++[(g3,63,cs.toArray)]) b5 vn nt 128 dZ p5 h5 om w hw) (λu M hM=>?_)
 obtain ⟨s6,bad6,b6,q6,p6,rfl⟩:=hM
 have l6:b6.length≤b5.length+(9+nt.length):=q6.len
 refine Sy.nil<|Sy.then_<|Sy.region<|sp J<|sP (pT g3 57)<|sS vc (AK (R:=[(g3,63,cs.toArray)]) (g:=g3) (f:=57) X6.one (λy hy=>Aj (List.mem_append_right R hy)) J Aw)<|Sy.callT (λw hw=>Cb w0.inn gw bad6 s6 (R++[(g3,63,cs.toArray)]) b6 vc sc 256 dZ p6 h6 om w hw) (λu M hM=>?_)
 obtain ⟨s7,bad7,b7,q7,p7,rfl⟩:=hM
 have l7:b7.length≤b6.length+(9+sc.length):=q7.len
 refine Sy.nil ?_
 have q:=q1.then_ (q2.then_ (q3.then_ (q4.then_ (q5.then_ (q6.then_ q7)))))
 exact Sy.retT0 J (WB gw bad7 s7 R) (λ_ h=>Bo h) (λ_=>⟨s7,bad7,b7,q,p7,rfl⟩)
theorem IK (w0:Base) (gr:Nat) (sl:Value) (b:Byt) (at_ e:Nat) (R:AA) (hat:at_≤b.length) (he:e≤200) (hl:b.length≤70368744177664) (hv:BytR (rdW w0.world) sl b) (w:World) (hw:St w0 w (RB gr sl at_ e R)) :
  AL 182 #[ptr gr] w (AQ w0 (Rfd ptP (λx v N=>v=.agg (lPT x).toArray∧N=[]∧x.x<Cu.K4∧x.y<Cu.K4) gr sl b R at_ e)):=by
 refine Sy.enterT (args:=[ptr gr]) hw Tryz.func182 J kL<|sC<|sM 57 (lPT ⟨0,0,false⟩).toArray (λg2=>?_)
 refine Sy.movT (pre:=[(gr,166,rrC sl at_ e)]) (T:=R)<|sA<|sp J<|Sy.callT (λw hw=>Dk w0.inn gr sl b at_ e 33 ((g2,57,(lPT ⟨0,0,false⟩).toArray)::R) hat he dZ hl hv w hw) (λu M hM=>?_)
 obtain ⟨x,a2,e2,N,q1,⟨q2,q3⟩,q4,q5,rfl⟩:=hM
 obtain ⟨A,n,cp,rfl,k2,k3,k4,k5⟩:=q2.byt
 obtain ⟨gb,ob,rfl,hq⟩:=k5 (by intro h; rw [h] at q3; cases q3)
 obtain ⟨m,hm⟩:=xE (mPt (Cu.decP x))
 obtain ⟨hx,hy⟩:=MG (Cu.decP x)
 rw [← hm] at hx hy
 obtain ⟨ok,hok⟩:=xE (Cu.decOk x)
 have hz:ok=false→m.i=true:=λh=>by
  rw [hm]; unfold Cu.decP; rw [← hok,h]; rfl
 obtain ⟨mx,my,mi⟩:=m
 dsimp only at hx hy hz
 refine sS (.tuple #[.agg (lPT ⟨mx,my,mi⟩).toArray,.bool ok]) (qg (λw' hw'=>by
  rw [hm, ← NM,hok]
  refine Cu.decodeR_any w' (some ⟨gb,ob,none⟩) x n cp om (λ_=>?_) k3
  have hf:=CA hw' (R:=N) (λy hy=>by simp [hy])
  have hc:∀ j u,x[j]? = some u→gb<w'.heap.size∧w'.cell? ⟨gb,ob+j,none⟩=some (bv u):=λj u hu=>hf _ _ _ (hq j u hu)
  exact ⟨gb,ob,rfl,(hc 0 _ (List.getElem?_eq_getElem om)).1,λj u hu=>(hc j u hu).2⟩))<|sp J<|sp J<|sp J ?_
 refine sM 57 (lPT ⟨0,0,false⟩).toArray (λg3=>?_)
 refine Sy.movT (pre:=[(gr,166,rrC sl a2 e2),(g2,57,(lPT ⟨0,0,false⟩).toArray)]) (T:=R++N)<|sw 2 J (lPT ⟨mx,my,mi⟩).toArray (Writes.row 57 (lPT ⟨mx,my,mi⟩) 9 _ _ J kR kR kR J kZ (CF _))<|sp J<|sG<|Sy.seq<|sC<|sp J<|sP (.bool (!ok))<|sP (.bool (!ok)) ?_
 cases ok
 case' false =>
  obtain rfl:mi=true:=hz J
  refine sN<|sN<|sP (.bool true)<|sG<|sT<|Sy.region<|sp J<|Sy.callT (λw hw=>FJ w0.inn gr sl a2 e2 ((g2,57,(lPT ⟨0,0,false⟩).toArray)::(g3,57,(lPT ⟨mx,my,true⟩).toArray)::(R++N)) w hw) (λu M hM=>?_)
  subst hM
  refine Sy.nil<|sB<|sS (.agg (lPT ⟨mx,my,true⟩).toArray) (Quiet.mid 2 g3 0 9 57 57 (lPT ⟨mx,my,true⟩) (lPT ⟨mx,my,true⟩) _ _ J kR J Am J kR (by rw [List.drop_zero]; exact List.take_of_length_le (Nat.le_refl 9)) (Nat.le_refl 9))<|sw 1 J (lPT ⟨mx,my,true⟩).toArray (Writes.row 57 (lPT ⟨mx,my,true⟩) 9 _ _ J kR kR kR J kZ (CF _))<|sG<|Sy.ret ?_
  have hAf:After ptP ⟨b.drop at_,e⟩ ⟨mx,my,true⟩ ⟨b.drop a2,(if e2=0 then 120 else e2)⟩:=q1.bind (by rw [← hm]; exact After.mustN _ (by show (if e2=0 then 120 else e2)≠0; split <;> omega))
  exact Sy.retT1 (RB gr sl a2 (if e2=0 then 120 else e2) (R++[])) J (.inl (Sy.Res.cell (ty':=57) g2 1 (lPT ⟨mx,my,true⟩).toArray _ kZ J Am J kZ J)) (λ_ h=>by rw [List.append_nil]; exact h.less ((((List.sublist_append_left R N).cons _).cons _).cons_cons _)) ⟨_,a2,(if e2=0 then 120 else e2),[],hAf,⟨rfl,rfl,hx,hy⟩,q4,(by split <;> omega),rfl⟩
 refine sP (pT g3 8)<|sS (.bool mi) (Quiet.cell 2 g3 8 57 4 (lPT ⟨mx,my,mi⟩).toArray _ _ J kR J uy4 J _ kR)<|sP (.bool mi)<|sG ?_
 cases mi
 ·refine sU<|Sy.skip<|sB ?_
  refine sS (.agg (lPT ⟨mx,my,false⟩).toArray) (Quiet.mid 2 g3 0 9 57 57 (lPT ⟨mx,my,false⟩) (lPT ⟨mx,my,false⟩) _ _ J kR J Am J kR (by rw [List.drop_zero]; exact List.take_of_length_le (Nat.le_refl 9)) (Nat.le_refl 9))<|sw 1 J (lPT ⟨mx,my,false⟩).toArray (Writes.row 57 (lPT ⟨mx,my,false⟩) 9 _ _ J kR kR kR J kZ (CF _))<|sG<|Sy.ret ?_
  have hAf:After ptP ⟨b.drop at_,e⟩ ⟨mx,my,false⟩ ⟨b.drop a2,e2⟩:=q1.bind (by rw [← hm]; exact After.ret _ _)
  exact Sy.retT1 (RB gr sl a2 e2 (R++[])) J (.inl (Sy.Res.cell (ty':=57) g2 1 (lPT ⟨mx,my,false⟩).toArray _ kZ J Am J kZ J)) (λ_ h=>by rw [List.append_nil]; exact h.less ((((List.sublist_append_left R N).cons _).cons _).cons_cons _)) ⟨_,a2,e2,[],hAf,⟨rfl,rfl,hx,hy⟩,q4,q5,rfl⟩
 ·refine sT<|Sy.region ?_
  refine sp J<|Sy.callT (λw hw=>FJ w0.inn gr sl a2 e2 ((g2,57,(lPT ⟨0,0,false⟩).toArray)::(g3,57,(lPT ⟨mx,my,true⟩).toArray)::(R++N)) w hw) (λu M hM=>?_)
  subst hM
  refine Sy.nil<|sB<|sS (.agg (lPT ⟨mx,my,true⟩).toArray) (Quiet.mid 2 g3 0 9 57 57 (lPT ⟨mx,my,true⟩) (lPT ⟨mx,my,true⟩) _ _ J kR J Am J kR (by rw [List.drop_zero]; exact List.take_of_length_le (Nat.le_refl 9)) (Nat.le_refl 9))<|sw 1 J (lPT ⟨mx,my,true⟩).toArray (Writes.row 57 (lPT ⟨mx,my,true⟩) 9 _ _ J kR kR kR J kZ (CF _))<|sG<|Sy.ret ?_
  have hAf:After ptP ⟨b.drop at_,e⟩ ⟨mx,my,true⟩ ⟨b.drop a2,(if e2=0 then 120 else e2)⟩:=q1.bind (by rw [← hm]; exact After.mustN _ (by show (if e2=0 then 120 else e2)≠0; split <;> omega))
  exact Sy.retT1 (RB gr sl a2 (if e2=0 then 120 else e2) (R++[])) J (.inl (Sy.Res.cell (ty':=57) g2 1 (lPT ⟨mx,my,true⟩).toArray _ kZ J Am J kZ J)) (λ_ h=>by rw [List.append_nil]; exact h.less ((((List.sublist_append_left R N).cons _).cons _).cons_cons _)) ⟨_,a2,(if e2=0 then 120 else e2),[],hAf,⟨rfl,rfl,hx,hy⟩,q4,(by split <;> omega),rfl⟩
theorem wMa {P:Program} {F:AJ} {o:Oper} {g:Nat} {t:TypeId} {A z Z:List Value} {x y:Operand} (ty:TypeId) (v:List Value) (k f:Nat) (ho:o.op=.store ty x y) (hx:evF F x=pT g f) (hy:evF F y=.agg v.toArray) (hi:(P.info? ty).map (·.size)=some k) (hA:A.length=f) (hz:z.length=k) (hv:v.length=k) (h1:∀ u∈v,u.oneCell'=true):Sy.Writes P F o g t (A++(z++Z)).toArray ((A++v)++Z).toArray:=by
 rw [List.append_assoc]
 exact wM ty A z v Z k f x y ho hx hy hi hA hz hv h1
theorem wOa {P:Program} {F:AJ} {o:Oper} {g:Nat} {t:TypeId} {A Z:List Value} {z:Value} {x y:Operand} (ty:TypeId) (v:Value) (f:Nat) (ho:o.op=.store ty x y) (hx:evF F x=pT g f) (hy:evF F y=v) (hi:(P.info? ty).map (·.size)=some 1) (hc:v.cells=#[v]) (h1:v.oneCell'=true) (hA:A.length=f):Sy.Writes P F o g t (A++([z]++Z)).toArray ((A++[v])++Z).toArray:=by
 rw [List.append_assoc]
 exact Writes.one f ty v x y ho hx hy hi hc h1 (by rw [List.size_toArray,List.length_append,hA]; exact Nat.lt_add_of_pos_right (Nat.succ_pos _)) (Bt hA)
theorem Jk:AH (DJ 0 1) (λz=>BF (decide (z=1)))=Gj:=by
 funext l
 cases h:BT 1 l with
 | none =>
  have h1:DJ 0 1 l=none:=by unfold DJ; exact bind_none h
  have h2:CH l=none:=by unfold CH; exact bind_none h
  unfold Gj
  rw [bind_none h1,bind_none h2]
 | some u =>
  obtain ⟨n,r⟩:=u
  have h2:CH l=some ((n:Int),r):=by unfold CH; rw [bind_some h]; rfl
  unfold Gj
  rw [bind_some h2]
  by_cases hn:n≤1
  ·have h1:DJ 0 1 l=some ((n:Int),r):=by
    unfold DJ
    rw [bind_some h,decide_eq_true (show 0≤n∧n≤1 by omega)]
    rfl
   rw [bind_some h1,decide_eq_true (show (n:Int)≤1 by omega)]
   rfl
  ·have h1:DJ 0 1 l=none:=by
    unfold DJ
    rw [bind_some h,decide_eq_false (show ¬ (0≤n∧n≤1) by omega)]
    rfl
   rw [bind_none h1,decide_eq_false (show ¬ (n:Int)≤1 by omega)]
   rfl
theorem Q2 (w0:Base) (gr:Nat) (sl:Value) (b:Byt) (at_ e:Nat) (R:AA) (hat:at_≤b.length) (he:e≤200) (hl:b.length≤70368744177664) (hv:BytR (rdW w0.world) sl b) (w:World) (hw:St w0 w (RB gr sl at_ e R)) :
  AL 84 #[ptr gr] w (AQ w0 (Rfd Jq (H9 102 Ds) gr sl b R at_ e)):=by
 have L0:([]:List Value).length=0:=rfl
 refine Sy.enterT (args:=[ptr gr]) hw Tryz.func84 J kL<|sC<|sM 42 ((([]:List Value))++(Z32++([Value.int .u64 0]++([Value.int .u64 0]++(Z32++(Z32++([Value.slice none 0 0]++([Value.bool false]++(([Value.int .i64 0]++[Value.slice none 0 0])++(([]:List Value))))))))))).toArray (λg2=>?_)
 refine Sy.movT (pre:=[(gr,166,rrC sl at_ e)]) (T:=R)<|sA<|sM 42 ((([]:List Value))++(Z32++([Value.int .u64 0]++([Value.int .u64 0]++(Z32++(Z32++([Value.slice none 0 0]++([Value.bool false]++(([Value.int .i64 0]++[Value.slice none 0 0])++(([]:List Value))))))))))).toArray (λg3=>?_)
 refine Sy.movT (pre:=[(gr,166,rrC sl at_ e),(g2,42,((([]:List Value))++(Z32++([Value.int .u64 0]++([Value.int .u64 0]++(Z32++(Z32++([Value.slice none 0 0]++([Value.bool false]++(([Value.int .i64 0]++[Value.slice none 0 0])++(([]:List Value))))))))))).toArray)]) (T:=R)<|sA<|sp J<|Sy.callT (λw hw=>Ca w0.inn gr sl b at_ e _ hat he hl hv w hw) (λu M hM=>?_)
 obtain ⟨x1,a1,e1,N1,p1,⟨rfl,r1,rfl⟩,u1,v1_,rfl⟩:=hM
 refine Sy.permS (List.Perm.of_eq (congrArg (RB gr sl a1 e1) (List.append_nil _))) ?_
 have n1:(x1.map bv).length=32:=by rw [List.length_map,r1]
 refine sP (pT g3 0)<|sw 2 J _ (wMa 37 (x1.map bv) 32 0 J kR kR kR L0 Cn n1 (E9 x1)) ?_
 have L1:(([]:List Value)++(x1.map bv)).length=32:=by rw [List.length_append,L0,n1]
 refine sA<|sp J<|Sy.callT (λw hw=>Eu w0.inn gr sl b a1 e1 8 _ u1 v1_ dZ hl hv w hw) (λu M hM=>?_)
 obtain ⟨x2,a2,e2,N2,p2,⟨rfl,r2,rfl⟩,u2,v2_,rfl⟩:=hM
 refine Sy.permS (List.Perm.of_eq (congrArg (RB gr sl a2 e2) (List.append_nil _)))<|sP (pT g3 32)<|sw 2 J _ (wOa 22 (uZ (x2:Int)) 32 J kR kR kR J J L1) ?_
 have L2:(([]:List Value)++(x1.map bv)++([Value.int .u64 (x2:Int)])).length=33:=by rw [List.length_append,L1]; rfl
 refine sA<|sp J<|Sy.callT (λw hw=>Eu w0.inn gr sl b a2 e2 8 _ u2 v2_ dZ hl hv w hw) (λu M hM=>?_)
 obtain ⟨x3,a3,e3,N3,p3,⟨rfl,r3,rfl⟩,u3,v3_,rfl⟩:=hM
 refine Sy.permS (List.Perm.of_eq (congrArg (RB gr sl a3 e3) (List.append_nil _)))<|sP (pT g3 33)<|sw 2 J _ (wOa 22 (uZ (x3:Int)) 33 J kR kR kR J J L2) ?_
 have L3:(([]:List Value)++(x1.map bv)++([Value.int .u64 (x2:Int)])++([Value.int .u64 (x3:Int)])).length=34:=by rw [List.length_append,L2]; rfl
 refine sA<|sp J<|Sy.callT (λw hw=>Ca w0.inn gr sl b a3 e3 _ u3 v3_ hl hv w hw) (λu M hM=>?_)
 obtain ⟨x4,a4,e4,N4,p4,⟨rfl,r4,rfl⟩,u4,v4_,rfl⟩:=hM
 refine Sy.permS (List.Perm.of_eq (congrArg (RB gr sl a4 e4) (List.append_nil _))) ?_
 have n4:(x4.map bv).length=32:=by rw [List.length_map,r4]
 refine sP (pT g3 34)<|sw 2 J _ (wMa 37 (x4.map bv) 32 34 J kR kR kR L3 Cn n4 (E9 x4)) ?_
 have L4:(([]:List Value)++(x1.map bv)++([Value.int .u64 (x2:Int)])++([Value.int .u64 (x3:Int)])++(x4.map bv)).length=66:=by rw [List.length_append,L3,n4]
 refine sA<|sp J<|Sy.callT (λw hw=>Ca w0.inn gr sl b a4 e4 _ u4 v4_ hl hv w hw) (λu M hM=>?_)
 obtain ⟨x5,a5,e5,N5,p5,⟨rfl,r5,rfl⟩,u5,v5_,rfl⟩:=hM
 refine Sy.permS (List.Perm.of_eq (congrArg (RB gr sl a5 e5) (List.append_nil _))) ?_
 have n5:(x5.map bv).length=32:=by rw [List.length_map,r5]
 refine sP (pT g3 66)<|sw 2 J _ (wMa 37 (x5.map bv) 32 66 J kR kR kR L4 Cn n5 (E9 x5)) ?_
 have L5:(([]:List Value)++(x1.map bv)++([Value.int .u64 (x2:Int)])++([Value.int .u64 (x3:Int)])++(x4.map bv)++(x5.map bv)).length=98:=by rw [List.length_append,L4,n5]
 refine sA<|sp J<|Sy.callT (λw hw=>CK 256 dZ w0.inn gr sl b a5 e5 ((g2,42,((([]:List Value))++(Z32++([Value.int .u64 0]++([Value.int .u64 0]++(Z32++(Z32++([Value.slice none 0 0]++([Value.bool false]++(([Value.int .i64 0]++[Value.slice none 0 0])++(([]:List Value))))))))))).toArray)::(g3,42,((([]:List Value)++(x1.map bv)++([Value.int .u64 (x2:Int)])++([Value.int .u64 (x3:Int)])++(x4.map bv)++(x5.map bv))++([Value.slice none 0 0]++([Value.bool false]++(([Value.int .i64 0]++[Value.slice none 0 0])++(([]:List Value)))))).toArray)::R) u5 v5_ hl hv w hw) (λv6 M hM=>?_)
 obtain ⟨x6,a6,e6,N6,p6,r6,u6,v6_,rfl⟩:=hM
 have hc6:=r6.byt.cells
 refine sP (pT g3 98)<|sw 2 J _ (wOa 27 v6 98 J kR kR kR hc6.1 hc6.2 L5) ?_
 have L6:(([]:List Value)++(x1.map bv)++([Value.int .u64 (x2:Int)])++([Value.int .u64 (x3:Int)])++(x4.map bv)++(x5.map bv)++([v6])).length=99:=by rw [List.length_append,L5]; rfl
 obtain ⟨B6,hB6⟩:=xE ((([]:List Value)++(x1.map bv)++([Value.int .u64 (x2:Int)])++([Value.int .u64 (x3:Int)])++(x4.map bv)++(x5.map bv)++([v6])))
 rw [← hB6] at L6 ⊢
 refine Sy.permS (M:=RB gr sl a6 e6 ((g2,42,((([]:List Value))++(Z32++([Value.int .u64 0]++([Value.int .u64 0]++(Z32++(Z32++([Value.slice none 0 0]++([Value.bool false]++(([Value.int .i64 0]++[Value.slice none 0 0])++(([]:List Value))))))))))).toArray)::(g3,42,(B6++([Value.bool false]++(([Value.int .i64 0]++[Value.slice none 0 0])++(([]:List Value))))).toArray)::(R++N6))) (List.Perm.refl _)<|sA<|sp J<|Sy.callT (λw hw=>CX 0 1 w0.inn gr sl b a6 e6 _ u6 v6_ hl hv w hw) (λu M hM=>?_)
 obtain ⟨z7,a7,e7,N7,p7,⟨rfl,rfl⟩,u7,v7_,rfl⟩:=hM
 refine Sy.permS (List.Perm.of_eq (congrArg (RB gr sl a7 e7) (List.append_nil _))) ?_
 obtain ⟨x7,hx7⟩:=xE (decide (z7=1))
 refine sS (.bool x7) (Quiet.pure (AE .eql _ _ _ .i64 _ _ _ J J J (Aa _ _ _ _ _ hx7.symm)))<|sP (pT g3 99)<|sw 2 J _ (wOa 4 (.bool x7) 99 J kR kR kR J J L6) ?_
 have L7:(B6++([Value.bool x7])).length=100:=by rw [List.length_append,L6]; rfl
 have p7t:After Gj ⟨b.drop a6,e6⟩ x7 ⟨b.drop a7,e7⟩:=by rw [← Jk,hx7]; exact p7.bind (After.ret _ _)
 refine sG<|Sy.seq<|sC<|sP (pT g3 99)<|sS (.bool x7) (Quiet.cell 2 g3 99 42 4 ((B6++([Value.bool x7]))++(([Value.int .i64 0]++[Value.slice none 0 0])++(([]:List Value)))).toArray _ _ J kR J uy4 J _ (by rw [List.getElem?_toArray,List.getElem?_append_left (by rw [L7]; decide),List.getElem?_append_right (by rw [L6]; exact Nat.le_refl _),L6]; rfl)) ?_
 refine sG ?_
 cases x7
 case' false =>
  refine sU<|Sy.skip<|Sy.then_ ?_
  have hAf:After Jq ⟨b.drop at_,e⟩ ⟨x1,x2,x3,x4,x5,x6,false,⟨0,[]⟩⟩ ⟨b.drop a7,e7⟩:=p1.bind (p2.bind (p3.bind (p4.bind (p5.bind (p6.bind (p7t.bind (After.bind (by rw [if_neg dZ]; exact After.ret _ _) (After.ret _ _))))))))
  have hrp:Ds (rdB (N6)) ((B6++([Value.bool false]))++(([Value.int .i64 0]++[Value.slice none 0 0])++([]:List Value))) ⟨x1,x2,x3,x4,x5,x6,false,⟨0,[]⟩⟩:=⟨v6,.slice none 0 0,by rw [hB6]; simp only [cHE,List.append_assoc,List.append_nil,List.nil_append],r1,r4,r5,r2,r3,r6.byt.le (AV λb h=>by simp [h]),⟨none,0,0,rfl,rfl,Nat.le_refl _,Nat.zero_le _,λh=>(h J).elim⟩⟩
  have hln:(((B6++([Value.bool false]))++(([Value.int .i64 0]++[Value.slice none 0 0])++([]:List Value)))).length=102:=by rw [List.length_append,L7]; rfl
  have hon:∀ u∈((B6++([Value.bool false]))++(([Value.int .i64 0]++[Value.slice none 0 0])++([]:List Value))),u.oneCell'=true:=QN hrp
  refine sC<|sS (.agg ((B6++([Value.bool false]))++(([Value.int .i64 0]++[Value.slice none 0 0])++([]:List Value))).toArray) (Quiet.mid 2 g3 0 102 42 42 ((B6++([Value.bool false]))++(([Value.int .i64 0]++[Value.slice none 0 0])++([]:List Value))) ((B6++([Value.bool false]))++(([Value.int .i64 0]++[Value.slice none 0 0])++([]:List Value))) _ _ J kR J OB J kR (by rw [List.drop_zero,List.take_of_length_le om]) om)<|sw 1 J ((B6++([Value.bool false]))++(([Value.int .i64 0]++[Value.slice none 0 0])++([]:List Value))).toArray (Writes.row 42 ((B6++([Value.bool false]))++(([Value.int .i64 0]++[Value.slice none 0 0])++([]:List Value))) 102 _ _ J kR kR kR hln kZ hon)<|sG<|Sy.ret ?_
  exact Sy.retT1 (RB gr sl a7 e7 (R++(N6))) J (.inl (Sy.Res.cell (ty':=42) g2 1 ((B6++([Value.bool false]))++(([Value.int .i64 0]++[Value.slice none 0 0])++([]:List Value))).toArray _ kZ J OB J (by rw [List.size_toArray,hln]; kernel_rfl) rfl)) (λ_ h=>Sy.St.parts (ls:=[[(gr,166,rrC sl a7 e7)],[(g2,42,((B6++([Value.bool false]))++(([Value.int .i64 0]++[Value.slice none 0 0])++([]:List Value))).toArray)],[(g3,42,((B6++([Value.bool false]))++(([Value.int .i64 0]++[Value.slice none 0 0])++([]:List Value))).toArray)],R++(N6)]) (ms:=[[(gr,166,rrC sl a7 e7)],R++(N6)]) [[(g2,42,((B6++([Value.bool false]))++(([Value.int .i64 0]++[Value.slice none 0 0])++([]:List Value))).toArray)],[(g3,42,((B6++([Value.bool false]))++(([Value.int .i64 0]++[Value.slice none 0 0])++([]:List Value))).toArray)]] [0,3,1,2] kZ (by rfl) (by simp) (by simp) h) ⟨⟨x1,x2,x3,x4,x5,x6,false,⟨0,[]⟩⟩,a7,e7,N6,hAf,⟨((B6++([Value.bool false]))++(([Value.int .i64 0]++[Value.slice none 0 0])++([]:List Value))),rfl,hln,hon,hrp⟩,u7,v7_,rfl⟩
 refine sT<|Sy.region<|sp J<|Sy.callT (λw hw=>QC w0.inn gr sl b a7 e7 ((g2,42,((([]:List Value))++(Z32++([Value.int .u64 0]++([Value.int .u64 0]++(Z32++(Z32++([Value.slice none 0 0]++([Value.bool false]++(([Value.int .i64 0]++[Value.slice none 0 0])++(([]:List Value))))))))))).toArray)::(g3,42,((B6++([Value.bool true]))++(([Value.int .i64 0]++[Value.slice none 0 0])++(([]:List Value)))).toArray)::(R++N6)) u7 v7_ hl hv w hw) (λu M hM=>?_)
 obtain ⟨⟨x8,ks⟩,a8,e8,N8,p8,⟨cs8,rfl,n8,o8,r8⟩,u8,v8_,rfl⟩:=hM
 obtain ⟨v8,hcs8,s8⟩:=r8
 refine Sy.permS (M:=RB gr sl a8 e8 ((g2,42,((([]:List Value))++(Z32++([Value.int .u64 0]++([Value.int .u64 0]++(Z32++(Z32++([Value.slice none 0 0]++([Value.bool false]++(([Value.int .i64 0]++[Value.slice none 0 0])++(([]:List Value))))))))))).toArray)::(g3,42,((B6++([Value.bool true]))++(([Value.int .i64 0]++[Value.slice none 0 0])++(([]:List Value)))).toArray)::(R++(N6++N8)))) (List.Perm.of_eq (by simp only [List.cons_append,List.append_assoc]))<|sP (pT g3 100)<|sw 2 J ((B6++([Value.bool true]))++(cs8++([]:List Value))).toArray (wM 40 (B6++([Value.bool true])) ([Value.int .i64 0]++[Value.slice none 0 0]) cs8 ([]:List Value) 2 100 _ _ J kR kR kR L7 J n8 o8)<|Sy.nil<|Sy.then_ ?_
 have hAf:After Jq ⟨b.drop at_,e⟩ ⟨x1,x2,x3,x4,x5,x6,true,⟨x8,ks⟩⟩ ⟨b.drop a8,e8⟩:=p1.bind (p2.bind (p3.bind (p4.bind (p5.bind (p6.bind (p7t.bind (After.bind (by rw [if_pos J]; exact p8) (After.ret _ _))))))))
 have hrp:Ds (rdB (N6++N8)) ((B6++([Value.bool true]))++(cs8++([]:List Value))) ⟨x1,x2,x3,x4,x5,x6,true,⟨x8,ks⟩⟩:=⟨v6,v8,by rw [hcs8]; rw [hB6]; simp only [cHE,List.append_assoc,List.append_nil,List.nil_append]; rfl,r1,r4,r5,r2,r3,r6.byt.le (AV λb h=>by simp [h]),LstR.le (rep:=Bj) Co (AV λb h=>by simp [h]) s8⟩
 have hln:(((B6++([Value.bool true]))++(cs8++([]:List Value)))).length=102:=by rw [List.length_append,L7]; rw [List.length_append,n8]; rfl
 have hon:∀ u∈((B6++([Value.bool true]))++(cs8++([]:List Value))),u.oneCell'=true:=QN hrp
 refine sC<|sS (.agg ((B6++([Value.bool true]))++(cs8++([]:List Value))).toArray) (Quiet.mid 2 g3 0 102 42 42 ((B6++([Value.bool true]))++(cs8++([]:List Value))) ((B6++([Value.bool true]))++(cs8++([]:List Value))) _ _ J kR J OB J kR (by rw [List.drop_zero,List.take_of_length_le om]) om)<|sw 1 J ((B6++([Value.bool true]))++(cs8++([]:List Value))).toArray (Writes.row 42 ((B6++([Value.bool true]))++(cs8++([]:List Value))) 102 _ _ J kR kR kR hln kZ hon)<|sG<|Sy.ret ?_
 exact Sy.retT1 (RB gr sl a8 e8 (R++(N6++N8))) J (.inl (Sy.Res.cell (ty':=42) g2 1 ((B6++([Value.bool true]))++(cs8++([]:List Value))).toArray _ kZ J OB J (by rw [List.size_toArray,hln]; kernel_rfl) rfl)) (λ_ h=>Sy.St.parts (ls:=[[(gr,166,rrC sl a8 e8)],[(g2,42,((B6++([Value.bool true]))++(cs8++([]:List Value))).toArray)],[(g3,42,((B6++([Value.bool true]))++(cs8++([]:List Value))).toArray)],R++(N6++N8)]) (ms:=[[(gr,166,rrC sl a8 e8)],R++(N6++N8)]) [[(g2,42,((B6++([Value.bool true]))++(cs8++([]:List Value))).toArray)],[(g3,42,((B6++([Value.bool true]))++(cs8++([]:List Value))).toArray)]] [0,3,1,2] kZ (by rfl) (by simp) (by simp) h) ⟨⟨x1,x2,x3,x4,x5,x6,true,⟨x8,ks⟩⟩,a8,e8,N6++N8,hAf,⟨((B6++([Value.bool true]))++(cs8++([]:List Value))),rfl,hln,hon,hrp⟩,u8,v8_,rfl⟩
theorem Q9 {place:Nat→Option (Nat×Nat)} {cs:Array Value}:Instr.fill place cs []=some cs:=by unfold Instr.fill; rfl
theorem S4 {place:Nat→Option (Nat×Nat)} {A B C c:List Value} {v:Value} {i n o:Nat} {rest:List (Nat×Value)} (hp:place i=some (o,n)) (hv:v.cells=c.toArray) (hA:A.length=o) (hB:B.length=n) (hc:c.length=n):Instr.fill place (A++(B++C)).toArray ((i,v)::rest)=Instr.fill place (A++(c++C)).toArray rest:=by
 conv=>lhs; unfold Instr.fill
 rw [hp]
 simp only [hv,List.size_toArray,hc,ne_eq,not_true_eq_false,decide_false,Bool.false_or]
 rw [if_neg (by simp only [List.length_append,hA,hB,decide_eq_true_eq]; omega)]
 have h1:c.toArray.zipIdx.foldl (λcs (x:Value×Nat)=>cs.setIfInBounds (o+x.2) x.1) (A++(B++C)).toArray=B' (A++(B++C)).toArray (o+0) c:=by
  rw [← Ig c o 0, ← Array.foldl_toList,Array.toList_zipIdx]
 rw [h1,Nat.add_zero,Di hA (hB.trans hc.symm)]
theorem Quiet.build1M {P:Program} {w0:Base} {F:AJ} {L:AA} {o:Oper} (t:TypeId) (fs:Array Field) (it:TypeInfo) (A B C c:List Value) (v:Value) (i:Nat) (x:Operand) (f n:Nat) (ps:List (Nat×Nat)) (ho:o.op=.build t #[(i,x)]) (hx:evF F x=v) (hv:v.cells=c.toArray) (hu:P.underlying t=some (.struct fs)) (hit:P.info? t=some it) (hz:it.zero=some (.agg (A++(B++C)).toArray))
  (hpl:fs.toList.mapM (λf=>(P.info? f.type).map λi=>(f.offset,i.size))=some ps) (hpi:ps.toArray[i]? = some (f,n)) (hA:A.length=f) (hB:B.length=n) (hc:c.length=n):Quiet P w0 F L o (.agg (A++(c++C)).toArray):=Quiet.pure λw=>by
 have hb:P.built t #[(i,v)].toList=some (A++(c++C)).toArray:=by
  unfold Program.built
  rw [hit,hu]
  simp only [hz,hpl]
  show Instr.fill (λx=>ps.toArray[x]?) (A++(B++C)).toArray [(i,v)]=_
  exact (S4 (place:=λx=>ps.toArray[x]?) hpi hv hA hB hc).trans Q9
 have hr:=run_build (P:=P) w t #[(i,v)] _ hb
 unfold execOp
 simp only [ho,Sem.run_bind,List.map_toArray,List.map_cons,List.map_nil,hx,hr,Result.andThen_ok,Sem.run_pure]
noncomputable def infTG:TypeInfo:=(Tryz.prog.info? 59).getD default
theorem Sw:Tryz.prog.info? 59=some infTG:=kZ
theorem Rm:infTG.zero=some (.agg ([Value.bool false]++(Z32++lPT ⟨0,0,false⟩)).toArray):=kZ
theorem NB {C:Rdr} {cs:List Value} {t:MTag} (h:IA C cs t):∀ u∈cs,u.oneCell'=true:=by
 obtain ⟨rfl,_⟩:=h
 exact AD (λu hu=>by rw [List.mem_singleton.1 hu]; rfl) (AD (Bv _) (CF _))
theorem NE {C:Rdr} {cs:List Value} {t:MAmt} (h:IB C cs t):∀ u∈cs,u.oneCell'=true:=by
 obtain ⟨rfl,_⟩:=h
 exact AD (λu hu=>by rw [List.mem_singleton.1 hu]; rfl) (AD (λu hu=>by rw [List.mem_singleton.1 hu]; rfl) (CF _))
theorem PP (w0:Base) (gr:Nat) (sl:Value) (b:Byt) (at_ e:Nat) (R:AA) (hat:at_≤b.length) (he:e≤200) (hl:b.length≤70368744177664) (hv:BytR (rdW w0.world) sl b) (w:World) (hw:St w0 w (RB gr sl at_ e R)) :
  AL 131 #[ptr gr] w (AQ w0 (Rfd Ke (H9 42 IA) gr sl b R at_ e)):=by
 refine Sy.enterT (args:=[ptr gr]) hw Tryz.func131 J kL<|sC<|sM 59 ([Value.bool false]++(Z32++lPT ⟨0,0,false⟩)).toArray (λg2=>?_)
 refine Sy.movT (pre:=[(gr,166,rrC sl at_ e)]) (T:=R)<|sG<|Sy.seq<|sC<|sp J<|Sy.callT (λw hw=>CX 0 1 w0.inn gr sl b at_ e ((g2,59,([Value.bool false]++(Z32++lPT ⟨0,0,false⟩)).toArray)::R) hat he hl hv w hw) (λu M hM=>?_)
 obtain ⟨z1,a1,e1,N1,p1,⟨rfl,rfl⟩,u1,v1_,rfl⟩:=hM
 rw [List.append_nil ((g2,59,([Value.bool false]++(Z32++lPT ⟨0,0,false⟩)).toArray)::R)]
 obtain ⟨x1,hx1⟩:=xE (decide (z1=1))
 refine sS (.bool x1) (Quiet.pure (AE .eql _ _ _ .i64 _ _ _ J J J (Aa _ _ _ _ _ hx1.symm))) ?_
 have p1t:After Gj ⟨b.drop at_,e⟩ x1 ⟨b.drop a1,e1⟩:=by rw [← Jk,hx1]; exact p1.bind (After.ret _ _)
 refine sG ?_
 cases x1
 case' true =>
  refine sT<|sC<|sp J<|Sy.callT (λw hw=>IK w0.inn gr sl b a1 e1 ((g2,59,([Value.bool false]++(Z32++lPT ⟨0,0,false⟩)).toArray)::R) u1 v1_ hl hv w hw) (λu M hM=>?_)
  obtain ⟨x2,a2,e2,N2,p2,⟨rfl,rfl,hx,hy⟩,u2,v2_,rfl⟩:=hM
  rw [List.append_nil ((g2,59,([Value.bool false]++(Z32++lPT ⟨0,0,false⟩)).toArray)::R)]
  have hrp:IA (rdB []) (cTG ⟨true,z32,x2⟩) ⟨true,z32,x2⟩:=⟨rfl,rfl,hx,hy⟩
  have hln:(cTG ⟨true,z32,x2⟩).length=42:=rfl
  refine sP (.agg (cTG ⟨true,z32,x2⟩).toArray)<|sw 1 J (cTG ⟨true,z32,x2⟩).toArray (Writes.row 59 (cTG ⟨true,z32,x2⟩) 42 _ _ J kR kR kR hln kZ (NB hrp))<|sG<|Sy.ret<|Sy.then_ret ?_
  exact Sy.retT1 (RB gr sl a2 e2 (R++[])) J (.inl (Sy.Res.cell (ty':=59) g2 1 (cTG ⟨true,z32,x2⟩).toArray _ kZ J PH J (by rw [List.size_toArray,hln]; kernel_rfl) rfl)) (λ_ h=>by rw [List.append_nil]; exact h.less ((List.Sublist.refl R).cons _ |>.cons_cons _)) ⟨_,a2,e2,[],p1t.bind (by rw [if_pos J]; exact p2.bind (After.ret _ _)),⟨(cTG ⟨true,z32,x2⟩),rfl,hln,NB hrp,hrp⟩,u2,v2_,rfl⟩
 refine sU<|Sy.skip<|sB<|sp J<|Sy.callT (λw hw=>Ca w0.inn gr sl b a1 e1 ((g2,59,([Value.bool false]++(Z32++lPT ⟨0,0,false⟩)).toArray)::R) u1 v1_ hl hv w hw) (λu M hM=>?_)
 obtain ⟨x2,a2,e2,N2,p2,⟨rfl,r2,rfl⟩,u2,v2_,rfl⟩:=hM
 rw [List.append_nil ((g2,59,([Value.bool false]++(Z32++lPT ⟨0,0,false⟩)).toArray)::R)]
 have hrp:IA (rdB []) (cTG ⟨false,x2,⟨0,0,false⟩⟩) ⟨false,x2,⟨0,0,false⟩⟩:=⟨rfl,r2,(show 0<Cu.K4 by decide),(show 0<Cu.K4 by decide)⟩
 have hln:(cTG ⟨false,x2,⟨0,0,false⟩⟩).length=42:=Ee r2
 refine sS (.agg (cTG ⟨false,x2,⟨0,0,false⟩⟩).toArray) (Quiet.build1M 59 _ infTG [Value.bool false] Z32 (lPT ⟨0,0,false⟩) (x2.map bv) (.agg (x2.map bv).toArray) 1 _ 1 32 [(0,1),(1,32),(33,9)] rfl kR J PH Sw Rm kZ J J Cn ((List.length_map ..).trans r2))<|sw 1 J (cTG ⟨false,x2,⟨0,0,false⟩⟩).toArray (Writes.row 59 (cTG ⟨false,x2,⟨0,0,false⟩⟩) 42 _ _ J kR kR kR hln kZ (NB hrp))<|sG<|Sy.ret ?_
 exact Sy.retT1 (RB gr sl a2 e2 (R++[])) J (.inl (Sy.Res.cell (ty':=59) g2 1 (cTG ⟨false,x2,⟨0,0,false⟩⟩).toArray _ kZ J PH J (by rw [List.size_toArray,hln]; kernel_rfl) rfl)) (λ_ h=>by rw [List.append_nil]; exact h.less ((List.Sublist.refl R).cons _ |>.cons_cons _)) ⟨_,a2,e2,[],p1t.bind (by rw [if_neg dZ]; exact p2.bind (After.ret _ _)),⟨(cTG ⟨false,x2,⟨0,0,false⟩⟩),rfl,hln,NB hrp,hrp⟩,u2,v2_,rfl⟩
theorem Hc (w0:Base) (gr:Nat) (sl:Value) (b:Byt) (at_ e:Nat) (R:AA) (hat:at_≤b.length) (he:e≤200) (hl:b.length≤70368744177664) (hv:BytR (rdW w0.world) sl b) (w:World) (hw:St w0 w (RB gr sl at_ e R)) :
  AL 132 #[ptr gr] w (AQ w0 (Rfd Js (H9 11 IB) gr sl b R at_ e)):=by
 refine Sy.enterT (args:=[ptr gr]) hw Tryz.func132 J kL<|sC<|sM 61 ([Value.bool false]++([Value.int .u64 0]++lPT ⟨0,0,false⟩)).toArray (λg2=>?_)
 refine Sy.movT (pre:=[(gr,166,rrC sl at_ e)]) (T:=R)<|sG<|Sy.seq<|sC<|sp J<|Sy.callT (λw hw=>CX 0 1 w0.inn gr sl b at_ e ((g2,61,([Value.bool false]++([Value.int .u64 0]++lPT ⟨0,0,false⟩)).toArray)::R) hat he hl hv w hw) (λu M hM=>?_)
 obtain ⟨z1,a1,e1,N1,p1,⟨rfl,rfl⟩,u1,v1_,rfl⟩:=hM
 rw [List.append_nil ((g2,61,([Value.bool false]++([Value.int .u64 0]++lPT ⟨0,0,false⟩)).toArray)::R)]
 obtain ⟨x1,hx1⟩:=xE (decide (z1=1))
 refine sS (.bool x1) (Quiet.pure (AE .eql _ _ _ .i64 _ _ _ J J J (Aa _ _ _ _ _ hx1.symm))) ?_
 have p1t:After Gj ⟨b.drop at_,e⟩ x1 ⟨b.drop a1,e1⟩:=by rw [← Jk,hx1]; exact p1.bind (After.ret _ _)
 refine sG ?_
 cases x1
 case' true =>
  refine sT<|sC<|sp J<|Sy.callT (λw hw=>IK w0.inn gr sl b a1 e1 ((g2,61,([Value.bool false]++([Value.int .u64 0]++lPT ⟨0,0,false⟩)).toArray)::R) u1 v1_ hl hv w hw) (λu M hM=>?_)
  obtain ⟨x2,a2,e2,N2,p2,⟨rfl,rfl,hx,hy⟩,u2,v2_,rfl⟩:=hM
  rw [List.append_nil ((g2,61,([Value.bool false]++([Value.int .u64 0]++lPT ⟨0,0,false⟩)).toArray)::R)]
  have hrp:IB (rdB []) (cAM ⟨true,0,x2⟩) ⟨true,0,x2⟩:=⟨rfl,(show (0:Nat)<18446744073709551616 by decide),hx,hy⟩
  have hln:(cAM ⟨true,0,x2⟩).length=11:=rfl
  refine sP (.agg (cAM ⟨true,0,x2⟩).toArray)<|sw 1 J (cAM ⟨true,0,x2⟩).toArray (Writes.row 61 (cAM ⟨true,0,x2⟩) 11 _ _ J kR kR kR hln kZ (NE hrp))<|sG<|Sy.ret<|Sy.then_ret ?_
  exact Sy.retT1 (RB gr sl a2 e2 (R++[])) J (.inl (Sy.Res.cell (ty':=61) g2 1 (cAM ⟨true,0,x2⟩).toArray _ kZ J KQ J (by rw [List.size_toArray,hln]; kernel_rfl) rfl)) (λ_ h=>by rw [List.append_nil]; exact h.less ((List.Sublist.refl R).cons _ |>.cons_cons _)) ⟨_,a2,e2,[],p1t.bind (by rw [if_pos J]; exact p2.bind (After.ret _ _)),⟨(cAM ⟨true,0,x2⟩),rfl,hln,NE hrp,hrp⟩,u2,v2_,rfl⟩
 refine sU<|Sy.skip<|sB<|sp J<|Sy.callT (λw hw=>Eu w0.inn gr sl b a1 e1 8 ((g2,61,([Value.bool false]++([Value.int .u64 0]++lPT ⟨0,0,false⟩)).toArray)::R) u1 v1_ dZ hl hv w hw) (λu M hM=>?_)
 obtain ⟨x2,a2,e2,N2,p2,⟨rfl,r2,rfl⟩,u2,v2_,rfl⟩:=hM
 rw [List.append_nil ((g2,61,([Value.bool false]++([Value.int .u64 0]++lPT ⟨0,0,false⟩)).toArray)::R)]
 have hrp:IB (rdB []) (cAM ⟨false,x2,⟨0,0,false⟩⟩) ⟨false,x2,⟨0,0,false⟩⟩:=⟨rfl,r2,(show 0<Cu.K4 by decide),(show 0<Cu.K4 by decide)⟩
 have hln:(cAM ⟨false,x2,⟨0,0,false⟩⟩).length=11:=rfl
 refine sP (.agg (cAM ⟨false,x2,⟨0,0,false⟩⟩).toArray)<|sw 1 J (cAM ⟨false,x2,⟨0,0,false⟩⟩).toArray (Writes.row 61 (cAM ⟨false,x2,⟨0,0,false⟩⟩) 11 _ _ J kR kR kR hln kZ (NE hrp))<|sG<|Sy.ret ?_
 exact Sy.retT1 (RB gr sl a2 e2 (R++[])) J (.inl (Sy.Res.cell (ty':=61) g2 1 (cAM ⟨false,x2,⟨0,0,false⟩⟩).toArray _ kZ J KQ J (by rw [List.size_toArray,hln]; kernel_rfl) rfl)) (λ_ h=>by rw [List.append_nil]; exact h.less ((List.Sublist.refl R).cons _ |>.cons_cons _)) ⟨_,a2,e2,[],p1t.bind (by rw [if_neg dZ]; exact p2.bind (After.ret _ _)),⟨(cAM ⟨false,x2,⟨0,0,false⟩⟩),rfl,hln,NE hrp,hrp⟩,u2,v2_,rfl⟩
abbrev zeOU:List Value:=((([]:List Value))++([Value.int .i64 0]++(([Value.bool false]++(Z32++lPT ⟨0,0,false⟩))++(([Value.bool false]++([Value.int .u64 0]++lPT ⟨0,0,false⟩))++([Value.slice none 0 0]++([Value.slice none 0 0]++([Value.slice none 0 0]++([Value.slice none 0 0]++(([]:List Value))))))))))
theorem Pa {α:Type} (f:Int→Ps α):AH (DJ 1 4) f=AH CH λk=>AH (BH (okK k)) λ_=>f k:=by
 funext l
 cases h:BT 1 l with
 | none =>
  have h1:DJ 1 4 l=none:=by unfold DJ; exact bind_none h
  have h2:CH l=none:=by unfold CH; exact bind_none h
  rw [bind_none h1,bind_none h2]
 | some u =>
  obtain ⟨n,r⟩:=u
  have h2:CH l=some ((n:Int),r):=by unfold CH; rw [bind_some h]; rfl
  rw [bind_some h2]
  by_cases hn:1≤n∧n≤4
  ·have h1:DJ 1 4 l=some ((n:Int),r):=by
    unfold DJ
    rw [bind_some h,decide_eq_true hn]
    rfl
   have hk:okK (n:Int)=true:=by
    unfold okK
    rw [decide_eq_true (show (1:Int)≤n by omega),decide_eq_true (show (n:Int)≤4 by omega)]; rfl
   rw [bind_some h1,hk]
   rfl
  ·have h1:DJ 1 4 l=none:=by
    unfold DJ
    rw [bind_some h,decide_eq_false hn]
    rfl
   have hk:okK (n:Int)=false:=Lx om
   rw [bind_none h1,hk]
   rfl
theorem Kn (w0:Base) (gr:Nat) (sl:Value) (b:Byt) (at_ e:Nat) (R:AA) (hat:at_≤b.length) (he:e≤200) (hl:b.length≤70368744177664) (hv:BytR (rdW w0.world) sl b) (w:World) (hw:St w0 w (RB gr sl at_ e R)) :
  AL 73 #[ptr gr] w (AQ w0 (Rfd Gn (H9 58 Cg) gr sl b R at_ e)):=by
 have L0:([]:List Value).length=0:=rfl
 refine Sy.enterT (args:=[ptr gr]) hw Tryz.func73 J kL<|sC<|sM 63 zeOU.toArray (λg2=>?_)
 refine Sy.movT (pre:=[(gr,166,rrC sl at_ e)]) (T:=R)<|sA<|sM 63 ((([]:List Value))++([Value.int .i64 0]++(([Value.bool false]++(Z32++lPT ⟨0,0,false⟩))++(([Value.bool false]++([Value.int .u64 0]++lPT ⟨0,0,false⟩))++([Value.slice none 0 0]++([Value.slice none 0 0]++([Value.slice none 0 0]++([Value.slice none 0 0]++(([]:List Value)))))))))).toArray (λg3=>?_)
 refine Sy.movT (pre:=[(gr,166,rrC sl at_ e),(g2,63,zeOU.toArray)]) (T:=R)<|sA<|sp J<|Sy.callT (λw hw=>CX 1 4 w0.inn gr sl b at_ e ((g2,63,zeOU.toArray)::(g3,63,((([]:List Value))++([Value.int .i64 0]++(([Value.bool false]++(Z32++lPT ⟨0,0,false⟩))++(([Value.bool false]++([Value.int .u64 0]++lPT ⟨0,0,false⟩))++([Value.slice none 0 0]++([Value.slice none 0 0]++([Value.slice none 0 0]++([Value.slice none 0 0]++(([]:List Value)))))))))).toArray)::R) hat he hl hv w hw) (λu M hM=>?_)
 obtain ⟨x1,a1,e1,N1,p1,⟨rfl,rfl⟩,u1,v1_,rfl⟩:=hM
 rw [List.append_nil ((g2,63,zeOU.toArray)::(g3,63,((([]:List Value))++([Value.int .i64 0]++(([Value.bool false]++(Z32++lPT ⟨0,0,false⟩))++(([Value.bool false]++([Value.int .u64 0]++lPT ⟨0,0,false⟩))++([Value.slice none 0 0]++([Value.slice none 0 0]++([Value.slice none 0 0]++([Value.slice none 0 0]++(([]:List Value)))))))))).toArray)::R)]
 refine sP (pT g3 0)<|sw 2 J _ (wOa 3 (.int .i64 x1) 0 J kR kR kR J J L0) ?_
 have L1:(([]:List Value)++([Value.int .i64 x1])).length=1:=by rw [List.length_append,L0]; rfl
 refine sA<|sp J<|Sy.callT (λw hw=>PP w0.inn gr sl b a1 e1 ((g2,63,zeOU.toArray)::(g3,63,((([]:List Value)++([Value.int .i64 x1]))++(([Value.bool false]++(Z32++lPT ⟨0,0,false⟩))++(([Value.bool false]++([Value.int .u64 0]++lPT ⟨0,0,false⟩))++([Value.slice none 0 0]++([Value.slice none 0 0]++([Value.slice none 0 0]++([Value.slice none 0 0]++(([]:List Value))))))))).toArray)::R) u1 v1_ hl hv w hw) (λu M hM=>?_)
 obtain ⟨x2,a2,e2,N2,p2,⟨cs2,rfl,n2,o2,rfl,b2⟩,u2,v2_,rfl⟩:=hM
 refine Sy.permS (M:=RB gr sl a2 e2 ((g2,63,zeOU.toArray)::(g3,63,((([]:List Value)++([Value.int .i64 x1]))++(([Value.bool false]++(Z32++lPT ⟨0,0,false⟩))++(([Value.bool false]++([Value.int .u64 0]++lPT ⟨0,0,false⟩))++([Value.slice none 0 0]++([Value.slice none 0 0]++([Value.slice none 0 0]++([Value.slice none 0 0]++(([]:List Value))))))))).toArray)::(R++N2))) (List.Perm.refl _)<|sP (pT g3 1)<|sw 2 J _ (wMa 59 (cTG x2) 42 1 J kR kR kR L1 J n2 o2) ?_
 have L2:(([]:List Value)++([Value.int .i64 x1])++(cTG x2)).length=43:=by rw [List.length_append,L1,n2]
 refine sA<|sp J<|Sy.callT (λw hw=>Hc w0.inn gr sl b a2 e2 ((g2,63,zeOU.toArray)::(g3,63,((([]:List Value)++([Value.int .i64 x1])++(cTG x2))++(([Value.bool false]++([Value.int .u64 0]++lPT ⟨0,0,false⟩))++([Value.slice none 0 0]++([Value.slice none 0 0]++([Value.slice none 0 0]++([Value.slice none 0 0]++(([]:List Value)))))))).toArray)::(R++N2)) u2 v2_ hl hv w hw) (λu M hM=>?_)
 obtain ⟨x3,a3,e3,N3,p3,⟨cs3,rfl,n3,o3,rfl,b3⟩,u3,v3_,rfl⟩:=hM
 refine Sy.permS (M:=RB gr sl a3 e3 ((g2,63,zeOU.toArray)::(g3,63,((([]:List Value)++([Value.int .i64 x1])++(cTG x2))++(([Value.bool false]++([Value.int .u64 0]++lPT ⟨0,0,false⟩))++([Value.slice none 0 0]++([Value.slice none 0 0]++([Value.slice none 0 0]++([Value.slice none 0 0]++(([]:List Value)))))))).toArray)::(R++N2++N3))) (List.Perm.refl _)<|sP (pT g3 43)<|sw 2 J _ (wMa 61 (cAM x3) 11 43 J kR kR kR L2 J n3 o3) ?_
 have L3:(([]:List Value)++([Value.int .i64 x1])++(cTG x2)++(cAM x3)).length=54:=by rw [List.length_append,L2,n3]
 obtain ⟨B3,hB3⟩:=xE ((([]:List Value)++([Value.int .i64 x1])++(cTG x2)++(cAM x3)))
 rw [← hB3] at L3 ⊢
 refine sA<|sp J<|Sy.callT (λw hw=>CK 6000 dZ w0.inn gr sl b a3 e3 ((g2,63,zeOU.toArray)::(g3,63,(B3++([Value.slice none 0 0]++([Value.slice none 0 0]++([Value.slice none 0 0]++([Value.slice none 0 0]++(([]:List Value))))))).toArray)::(R++N2++N3)) u3 v3_ hl hv w hw) (λv4 M hM=>?_)
 obtain ⟨x4,a4,e4,N4,p4,r4,u4,v4_,rfl⟩:=hM
 refine Sy.permS (M:=RB gr sl a4 e4 ((g2,63,zeOU.toArray)::(g3,63,(B3++([Value.slice none 0 0]++([Value.slice none 0 0]++([Value.slice none 0 0]++([Value.slice none 0 0]++(([]:List Value))))))).toArray)::(R++N2++N3++N4))) (List.Perm.refl _) ?_
 have hc4:=r4.byt.cells
 refine sP (pT g3 54)<|sw 2 J _ (wOa 27 v4 54 J kR kR kR hc4.1 hc4.2 L3) ?_
 have L4:(B3++([v4])).length=55:=by rw [List.length_append,L3]; rfl
 refine sA<|sp J<|Sy.callT (λw hw=>CK 6000 dZ w0.inn gr sl b a4 e4 ((g2,63,zeOU.toArray)::(g3,63,((B3++([v4]))++([Value.slice none 0 0]++([Value.slice none 0 0]++([Value.slice none 0 0]++(([]:List Value)))))).toArray)::(R++N2++N3++N4)) u4 v4_ hl hv w hw) (λv5 M hM=>?_)
 obtain ⟨x5,a5,e5,N5,p5,r5,u5,v5_,rfl⟩:=hM
 refine Sy.permS (M:=RB gr sl a5 e5 ((g2,63,zeOU.toArray)::(g3,63,((B3++([v4]))++([Value.slice none 0 0]++([Value.slice none 0 0]++([Value.slice none 0 0]++(([]:List Value)))))).toArray)::(R++N2++N3++N4++N5))) (List.Perm.refl _) ?_
 have hc5:=r5.byt.cells
 refine sP (pT g3 55)<|sw 2 J _ (wOa 27 v5 55 J kR kR kR hc5.1 hc5.2 L4) ?_
 have L5:(B3++([v4])++([v5])).length=56:=by rw [List.length_append,L4]; rfl
 refine sA<|sp J<|Sy.callT (λw hw=>CK 128 dZ w0.inn gr sl b a5 e5 ((g2,63,zeOU.toArray)::(g3,63,((B3++([v4])++([v5]))++([Value.slice none 0 0]++([Value.slice none 0 0]++(([]:List Value))))).toArray)::(R++N2++N3++N4++N5)) u5 v5_ hl hv w hw) (λv6 M hM=>?_)
 obtain ⟨x6,a6,e6,N6,p6,r6,u6,v6_,rfl⟩:=hM
 refine Sy.permS (M:=RB gr sl a6 e6 ((g2,63,zeOU.toArray)::(g3,63,((B3++([v4])++([v5]))++([Value.slice none 0 0]++([Value.slice none 0 0]++(([]:List Value))))).toArray)::(R++N2++N3++N4++N5++N6))) (List.Perm.refl _) ?_
 have hc6:=r6.byt.cells
 refine sP (pT g3 56)<|sw 2 J _ (wOa 27 v6 56 J kR kR kR hc6.1 hc6.2 L5) ?_
 have L6:(B3++([v4])++([v5])++([v6])).length=57:=by rw [List.length_append,L5]; rfl
 refine sA<|sp J<|Sy.callT (λw hw=>CK 256 dZ w0.inn gr sl b a6 e6 ((g2,63,zeOU.toArray)::(g3,63,((B3++([v4])++([v5])++([v6]))++([Value.slice none 0 0]++(([]:List Value)))).toArray)::(R++N2++N3++N4++N5++N6)) u6 v6_ hl hv w hw) (λv7 M hM=>?_)
 obtain ⟨x7,a7,e7,N7,p7,r7,u7,v7_,rfl⟩:=hM
 refine Sy.permS (M:=RB gr sl a7 e7 ((g2,63,zeOU.toArray)::(g3,63,((B3++([v4])++([v5])++([v6]))++([Value.slice none 0 0]++(([]:List Value)))).toArray)::(R++N2++N3++N4++N5++N6++N7))) (List.Perm.refl _) ?_
 have hc7:=r7.byt.cells
 refine sP (pT g3 57)<|sw 2 J _ (wOa 27 v7 57 J kR kR kR hc7.1 hc7.2 L6) ?_
 have L7:(B3++([v4])++([v5])++([v6])++([v7])).length=58:=by rw [List.length_append,L6]; rfl
 have hAf:After Gn ⟨b.drop at_,e⟩ ⟨x1,x2,x3,x4,x5,x6,x7⟩ ⟨b.drop a7,e7⟩:=by
  unfold Gn
  rw [← Pa]
  exact p1.bind (p2.bind (p3.bind (p4.bind (p5.bind (p6.bind (p7.bind (After.ret _ _)))))))
 have hrp:Cg (rdB (N2++(N3++(N4++(N5++(N6++N7)))))) ((B3++([v4])++([v5])++([v6])++([v7]))++([]:List Value)) ⟨x1,x2,x3,x4,x5,x6,x7⟩:=⟨v4,v5,v6,v7,by rw [hB3]; simp only [cOU,List.append_assoc,List.append_nil,List.nil_append],b2,b3,r4.byt.le (AV λb h=>by simp [h]),r5.byt.le (AV λb h=>by simp [h]),r6.byt.le (AV λb h=>by simp [h]),r7.byt.le (AV λb h=>by simp [h])⟩
 have hln:((B3++([v4])++([v5])++([v6])++([v7]))++([]:List Value)).length=58:=by rw [List.length_append,L7]; rfl
 have hon:∀ u∈((B3++([v4])++([v5])++([v6])++([v7]))++([]:List Value)),u.oneCell'=true:=Vd hrp
 refine sA<|sS (.agg ((B3++([v4])++([v5])++([v6])++([v7]))++([]:List Value)).toArray) (Quiet.mid 2 g3 0 58 63 63 ((B3++([v4])++([v5])++([v6])++([v7]))++([]:List Value)) ((B3++([v4])++([v5])++([v6])++([v7]))++([]:List Value)) _ _ J kR J OA J kR (by rw [List.drop_zero,List.take_of_length_le om]) om)<|sw 1 J ((B3++([v4])++([v5])++([v6])++([v7]))++([]:List Value)).toArray (Writes.row 63 ((B3++([v4])++([v5])++([v6])++([v7]))++([]:List Value)) 58 _ _ J kR kR kR hln kZ hon)<|sG<|Sy.ret ?_
 exact Sy.retT1 (RB gr sl a7 e7 (R++(N2++(N3++(N4++(N5++(N6++N7))))))) J (.inl (Sy.Res.cell (ty':=63) g2 1 ((B3++([v4])++([v5])++([v6])++([v7]))++([]:List Value)).toArray _ kZ J OA J (by rw [List.size_toArray,hln]; kernel_rfl) rfl)) (λ_ h=>by
  have e:R++N2++N3++N4++N5++N6++N7=R++(N2++(N3++(N4++(N5++(N6++N7))))):=by simp only [List.append_assoc]
  rw [← e]
  exact h.less ((((List.Sublist.refl _).cons _).cons _).cons_cons _)) ⟨_,a7,e7,N2++(N3++(N4++(N5++(N6++N7)))),hAf,⟨((B3++([v4])++([v5])++([v6])++([v7]))++([]:List Value)),rfl,hln,hon,hrp⟩,u7,v7_,rfl⟩
structure RLsN (α:Type) where
 at_:Nat
 e:Nat
 xs:List α
 r:Slc
 N:AA
theorem Hr (w:World) (F:AJ) (o:Oper) (x:Operand) (n:Nat) (hn:n<4294967296) (ho:o.op=.convert 140 22 x) (hx:evF F x=.int .u32 (n:Int)):(execOp (evF F) o).run Tryz.prog w=.ok (.value (.int .u64 (n:Int))) w:=by
 have h:(convert 140 22 (.int .u32 (n:Int))).run Tryz.prog w=.ok (.int .u64 (n:Int)) w:=by
  go_simp
  unfold IntKind.wrap
  simp [IntKind.signed,IntKind.bits]
  omega
 unfold execOp
 simp only [ho,hx,Sem.run_bind,h,Result.andThen_ok,Sem.run_pure]
theorem Hq (w:World) (F:AJ) (o:Oper) (x:Operand) (n:Nat) (hn:n<4294967296) (ho:o.op=.convert 22 140 x) (hx:evF F x=.int .u64 (n:Int)):(execOp (evF F) o).run Tryz.prog w=.ok (.value (.int .u32 (n:Int))) w:=by
 have h:(convert 22 140 (.int .u64 (n:Int))).run Tryz.prog w=.ok (.int .u32 (n:Int)) w:=by
  go_simp
  unfold IntKind.wrap
  simp [IntKind.signed,IntKind.bits]
  omega
 unfold execOp
 simp only [ho,hx,Sem.run_bind,h,Result.andThen_ok,Sem.run_pure]
theorem PC (w0:Base) (gw:Nat) (s:Slc) (R:AA) (b:Byt) (n:Nat) (hn:n<4294967296) (hb:BS s b) (hl:b.length≤70368744177664) (w:World) (hw:St w0 w (WS gw s R)) :
  AL 202 #[ptr gw,.int .u32 (n:Int)] w (AQ w0 (Wr gw R (b++nb 4 n))):=by
 refine Sy.enterT (args:=[ptr gw,.int .u32 (n:Int)]) hw Tryz.func202 J kL<|Sy.region<|sp J<|sp J<|sS (.int .u64 (n:Int)) (Quiet.pure (λw=>Hr w _ _ _ n hn J J))<|Sy.callT (λw hw=>Da _ gw s R b n 4 om dZ hb hl w hw) (λv M hM=>?_)
 obtain ⟨s1,hs1,rfl⟩:=hM
 refine Sy.nil ?_
 exact Sy.retT0 J (WS gw s1 R) (λ_ h=>h) (λ_=>⟨s1,hs1,rfl⟩)
theorem Ld (w0:Base) (gc gw gx f:Nat) (bad:Bool) (s:Slc) (R:AA) (b:Byt) (n:Nat) (hn:n<4294967296) (hc:rdC w0 R gx f (.int .u32 (n:Int))) (hb:BS s b) (hl:b.length+4≤70368744177000) (w:World) (hw:St w0 w (CWS gc gw bad s R)) :
  AL 166 #[ptr gc,pT gx f] w (AQ w0 (WrC gc gw R true (nb 4 n) 4 bad b)):=by
 have item:∀ w,St w0.inn w (CWS gc gw bad s R)→AL 201 #[ptr gc,pT gx f,.func (.func 202) #[] #[],.func (.func 203) #[] #[]] w (AQ w0.inn (WrC gc gw R true (nb 4 n) 4 bad b)):=λw hw=>by
  refine Sy.enterT (args:=[ptr gc,pT gx f,.func (.func 202) #[] #[],.func (.func 203) #[] #[]]) hw Tryz.func201 J kL<|sC<|sp J<|sS (.bool false) (qg (λw hw=>DD w0.inn gc _ _ (List.mem_cons_self ..) w hw))<|sG<|sU<|Sy.regionD (λj=>j == 8) kR<|sa 0 J J<|sa 1 J J<|sa 2 J J<|sb 3 J (pT gc 0)<|sD 4 J (ptr gw) (qc 0 0 J J Fa)<|sa 5 J J<|sa 6 J J<|sD 7 J (.int .u32 (n:Int)) (AK (R:=R) hc Ba J F0)<|Sy.soleD 8 J (λQ2 hq2=>?_)
  refine Sy.callT (λw hw=>PC w0.inn gw s ((gc,134,#[ptr gw,.pointer none,.bool bad])::R) b n hn hb om w (hw.perm permCW)) (λu M hM=>?_)
  obtain ⟨s1,hs1,rfl⟩:=hM
  refine Sy.permS permCW.symm<|hq2 _ _<|sE ?_
  exact Sy.retT0 J (CWS gc gw bad s1 R) (λ_ h=>h) (λ_=>⟨s1,bad,b++nb 4 n,Wrote.raw _ bad b (by rw [B1]; exact Nat.le_refl _),hs1,rfl⟩)
 refine Sy.enterT (args:=[ptr gc,pT gx f]) hw Tryz.func166 J kL<|Sy.region<|sp J<|sp J<|Sy.callT (λw hw=>item w hw) (λu M hM=>?_)
 obtain ⟨s1,bad1,b1,h1,h2,rfl⟩:=hM
 refine Sy.nil ?_
 exact Sy.retT0 J (CWS gc gw bad1 s1 R) (λ_ h=>h) (λ_=>⟨s1,bad1,b1,h1,h2,rfl⟩)
def TZ (_:Rdr) (cs:List Value) (n:Nat):Prop:=cs=[.int .u32 (n:Int)]∧n<4294967296
theorem Nz (w0:Base) (gr:Nat) (sl:Value) (s:RS) (R S:AA) (hS:∀ b∈S,b∈R) (he0:s.e≤200) (hv:BytR (rdC w0 S) sl s.rest) (w:World) (hw:St w0 w (RQ gr sl s.e R)) :
  AL 203 #[ptr gr] w (AQ w0 (Rdd (BT 4) (λx v=>v=.int .u32 (x:Int)∧x<4294967296) w0 gr R S s)):=by
 obtain ⟨f,hf⟩:=xE (fxN s.rest 4)
 obtain ⟨q1,q2,q3⟩:=Dz s.rest 4 dZ
 have hy:=@Ic s.rest 4
 have hno:=@NZ s.rest 4
 have hlt:f.1<4294967296:=by
  rw [hf]
  unfold fxN
  split
  ·decide
  ·have h:=Cm (s.rest.take 4)
   have h2:256 ^ (s.rest.take 4).length≤256 ^ 4:=Nat.pow_le_pow_right dZ (by rw [List.length_take]; omega)
   exact Nat.lt_of_lt_of_le h h2
 rw [← hf] at q1 q2 q3 hy hno
 refine Sy.enterT (args:=[ptr gr]) hw Tryz.func203 J kL<|sC<|sP (.int .u32 0)<|sA<|sp J<|sp J<|sp J<|sP (pT gr 0)<|sS sl (qc 0 0 J J Aw)<|sS (t3V f) (qg (λw' hw=>by rw [hf]; exact Dm w' _ _ 4 dZ dZ (hv.le (Ad (w0:=w0.inn) hw (λ_ h=>List.mem_cons_of_mem _ (hS _ h))))))<|sp J<|sp J<|sp J<|Sy.callT (λw hw=>B0 (BT 4) w0.inn gr sl s R S hS f.1 f.2.1 f.2.2 he0 q3 om q1 (λh=>⟨(hy h).1,(hy h).2.1⟩) hno hv w hw) (λv M hM=>?_)
 obtain ⟨x,s',sl',hA,⟨rfl,hx⟩,h2,h3,h4,rfl⟩:=hM
 refine sS (.int .u32 (x:Int)) (Quiet.pure (λw=>Hq w _ _ _ x om J J))<|sp J<|sG<|Sy.ret ?_
 exact Sy.retT1 (RQ gr sl' s'.e R) rfl (.inl (show _=_ by kernel_rfl)) (λ_ h=>h) ⟨x,s',sl',hA,⟨rfl,by omega⟩,h2,h3,h4,rfl⟩
theorem Lf:B7 166 1 [.int .u32 0] TZ (BT 4):=λw0 gc gr gx f tx A Z sl s R S hS hA he hl hv w hw=>by
 have item:∀ w,St w0.inn w (CRS gc gr gx tx (A++([Value.int .u32 0]++Z)) sl s.e R)→AL 201 #[ptr gc,pT gx f,.func (.func 202) #[] #[],.func (.func 203) #[] #[]] w (AQ w0.inn (RdT 1 TZ (BT 4) w0.inn gc gr gx tx A Z s R S)):=λw hw=>by
  refine Sy.enterT (args:=[ptr gc,pT gx f,.func (.func 202) #[] #[],.func (.func 203) #[] #[]]) hw Tryz.func201 J kL<|sC<|sp J<|sS (.bool true) (qg (λw hw=>Cs w0.inn gc gr _ _ (List.mem_cons_self ..) w hw))<|sG<|sT<|Sy.region<|sp J<|sp J<|sp J<|sp J<|sP (pT gc 1)<|sS (ptr gr) (qc 0 1 J J CV)<|Sy.callT (λw hw=>Nz w0.inn gr sl s ((gc,134,#[.pointer none,ptr gr,.bool false])::(gx,tx,(A++([Value.int .u32 0]++Z)).toArray)::R) S (λb h=>List.mem_cons_of_mem _ (List.mem_cons_of_mem _ (hS b h))) he hv w (hw.perm permCR)) (λu M hM=>?_)
  obtain ⟨x,s',sl',q1,⟨rfl,q2⟩,q3,q4,q5,rfl⟩:=hM
  refine Sy.permS permCR.symm<|sp J<|sw 1 J (A++([Value.int .u32 (x:Int)]++Z)).toArray (Writes.one f 140 (.int .u32 (x:Int)) _ _ J kR kR kR J J (by rw [List.size_toArray,List.length_append,hA]; exact Nat.lt_add_of_pos_right (Nat.succ_pos _)) (Bt hA))<|Sy.nil ?_
  exact Sy.retT0 J (CRS gc gr gx tx (A++([Value.int .u32 (x:Int)]++Z)) sl' s'.e R) (λ_ h=>h) (λ_=>⟨x,s',sl',[Value.int .u32 (x:Int)],[],q1,rfl,λu hu=>by rw [List.mem_singleton.1 hu]; rfl,⟨rfl,q2⟩,q3,q4,q5,by rw [List.append_nil]⟩)
 refine Sy.enterT (args:=[ptr gc,pT gx f]) hw Tryz.func166 J kL<|Sy.region<|sp J<|sp J<|Sy.callT (λw hw=>item w hw) (λu M hM=>?_)
 refine Sy.nil ?_
 have hM':=hM
 obtain ⟨x,s',sl',cs,N,q1,q2,q3,q4,q5,q6,q7,rfl⟩:=hM'
 exact Sy.retT0 J _ (λ_ h=>h) (λ_=>hM)
end Wr
end
section
namespace Sc
open Go.RowKit
def pM:Nat:=115792089237316195423570985008687907852837564279074904382605163141518161494337
theorem EG:pM=115792089237316195423570985008687907852837564279074904382605163141518161494337:=rfl
theorem mod_lt (n:Nat):n%pM<(2^256):=by have:=Nat.mod_lt n (show 0<pM by decide); rw [EG] at this ⊢; omega
theorem Bw (n:Nat):n%pM<pM:=Nat.mod_lt n dZ
theorem F7 (x:Nat) (hx:x<(2^256)):x%pM=if x+432420386565659656852420866394968145599<(2^256) then x else x+432420386565659656852420866394968145599 - (2^256):=by
 rw [EG]
 by_cases h:x+432420386565659656852420866394968145599<(2^256)
 ·rw [if_pos h]; exact Nat.mod_eq_of_lt om
 ·rw [if_neg h,Nat.mod_eq_sub_mod om,Nat.mod_eq_of_lt om]
  omega
end Sc
end
end Go.Proofs.YtdbcombmmnihbaaGreat
