/-
  Texts of ours, put together: WirGG, WirGH, WirXF, WirGR, WirGM, WirGN, WirGO, WirAA, WireOnlyL, WirGS, WireCutL.
-/
import Derived.Test.YtdbcombmmnihbaaGreatWK6
set_option linter.unusedVariables false
set_option linter.unusedSimpArgs false
namespace Go.Proofs.YtdbcombmmnihbaaGreat
section
namespace Wr
open Go.RowKit Sy
set_option maxRecDepth 100000
set_option maxHeartbeats 4000000
theorem tx_w:PutC 28 3 repTR okTR encTR wtTR:=λw0 gc gw gx f bad s R b cs x hx _ hc hb hl w hw=>by
 obtain ⟨af,is,os⟩:=x
 obtain ⟨vi,vo,rfl,h1,h2,h3⟩:=hx
 dsimp only at h1 h2 h3
 unfold wtTR at hl
 dsimp only at hl
 have c0:XAt (rdC w0 R) gx f ([.int .u64 (af:Int)]++([vi]++[vo])):=hc
 have c1:XAt (rdC w0 R) gx (f+1) ([vi]++[vo]):=c0.right (n:=1) rfl
 have c2:XAt (rdC w0 R) gx (f+2) [vo]:=c1.right (n:=1) rfl
 refine Sy.enterT (args:=[ptr gc,.pointer (some ⟨gx,f,none⟩)]) hw Tryz.func28 rfl kL ?_
 refine sC ?_
 refine sp rfl<|sp rfl<|sp rfl<|sP (.pointer (some ⟨gx,f,none⟩)) ?_
 refine Sy.callT (λw hw=>long_w w0.inn gc gw gx f bad s R b af h1 c0.one hb (by omega) w hw) (λu M hM=>?_)
 obtain ⟨s1,bad1,b1,q1,p1,rfl⟩:=hM
 have l1:b1.length≤b.length+8:=q1.len
 refine sA ?_
 refine sp rfl<|sp rfl<|sp rfl<|sP (.pointer (some ⟨gx,f+1,none⟩)) ?_
 refine Sy.callT (λw hw=>list_w_ins (rep:=repIN) monoIN in_w w0.inn gc gw gx (f+1) 16 (by decide) bad1 s1 R b1 vi is h2 c1.one p1 (by omega) w hw) (λu M hM=>?_)
 obtain ⟨s2,bad2,b2,q2,p2,rfl⟩:=hM
 have l2:b2.length≤b1.length+(9+(is.map wtIN).sum):=q2.len
 refine Sy.nil<|Sy.then_<|Sy.region ?_
 refine sp rfl<|sp rfl<|sp rfl<|sP (.pointer (some ⟨gx,f+2,none⟩)) ?_
 refine Sy.callT (λw hw=>list_w_ous (rep:=repOU) monoOU out_w w0.inn gc gw gx (f+2) 16 (by decide) bad2 s2 R b2 vo os h3 c2.one p2 (by omega) w hw) (λu M hM=>?_)
 obtain ⟨s3,bad3,b3,q3,p3,rfl⟩:=hM
 have l3:b3.length≤b2.length+(9+(os.map wtOU).sum):=q3.len
 refine Sy.nil ?_
 have q:=q1.then_ (q2.then_ q3)
 simp only [Bool.true_and] at q
 exact Sy.retT0 rfl (CWS gc gw bad3 s3 R) (λ_ h=>h) (λ_=>⟨s3,bad3,b3,q,p3,rfl⟩)
theorem tx_r:GetC 28 3 ([Value.int .u64 0]++([Value.slice none 0 0]++([Value.slice none 0 0]))) repTR rdTR:=λw0 gc gr gx f tx A Z sl s R S hS hA he hl hv w hw=>by
 refine Sy.enterT (args:=[ptr gc,.pointer (some ⟨gx,f,none⟩)]) hw Tryz.func28 rfl kL ?_
 refine sC ?_
 refine sp rfl<|sp rfl<|sp rfl<|sP (.pointer (some ⟨gx,f,none⟩)) ?_
 refine Sy.callT (λw hw=>long_r w0.inn gc gr gx f tx (A) ([Value.slice none 0 0]++([Value.slice none 0 0]++Z)) sl s (R) S hS hA he (hl) hv w (by simpa only [List.append_assoc] using hw)) (λu M hM=>?_)
 obtain ⟨x1,s1,sl1,cs1,N1,a1,n1,o1,⟨rfl,r1⟩,e1,h1,y1,rfl⟩:=hM
 have g1:s1.rest.length≤s.rest.length:=h1
 have A1:(A++[Value.int .u64 (x1:Int)]).length=f+1:=by rw [List.length_append,hA,n1]
 refine sA ?_
 refine sp rfl<|sp rfl<|sp rfl<|sP (.pointer (some ⟨gx,f+1,none⟩)) ?_
 refine Sy.callT (λw hw=>list_r_ins (rep:=repIN) (p:=rdIN) monoIN in_r w0.inn gc gr gx (f+1) 16 (by decide) tx (A++[Value.int .u64 (x1:Int)]) ([Value.slice none 0 0]++Z) sl1 s1 (R++N1) S (λb h=>List.mem_append_left _ (hS b h)) A1 e1 (Nat.le_trans g1 hl) y1 w (by have e:A++[Value.int .u64 (x1:Int)]++([Value.slice none 0 0]++([Value.slice none 0 0]++Z))=A++([Value.int .u64 (x1:Int)]++([Value.slice none 0 0]++([Value.slice none 0 0]++Z))):=List.append_assoc ..; rw [e]; exact hw)) (λu M hM=>?_)
 obtain ⟨x2,s2,sl2,cs2,N2,a2,n2,o2,⟨v2,rfl,r2⟩,e2,h2,y2,rfl⟩:=hM
 have g2:s2.rest.length≤s.rest.length:=Nat.le_trans h2 g1
 have A2:(A++[Value.int .u64 (x1:Int)]++[v2]).length=f+2:=by rw [List.length_append,A1,n2]
 refine Sy.nil<|Sy.then_<|Sy.region ?_
 refine sp rfl<|sp rfl<|sp rfl<|sP (.pointer (some ⟨gx,f+2,none⟩)) ?_
 refine Sy.callT (λw hw=>list_r_ous (rep:=repOU) (p:=rdOU) monoOU out_r w0.inn gc gr gx (f+2) 16 (by decide) tx (A++[Value.int .u64 (x1:Int)]++[v2]) (Z) sl2 s2 (R++N1++N2) S (λb h=>List.mem_append_left _ (List.mem_append_left _ (hS b h))) A2 e2 (Nat.le_trans g2 hl) y2 w (by have e:A++[Value.int .u64 (x1:Int)]++[v2]++([Value.slice none 0 0]++(Z))=A++[Value.int .u64 (x1:Int)]++([v2]++([Value.slice none 0 0]++(Z))):=List.append_assoc ..; rw [e]; exact hw)) (λu M hM=>?_)
 obtain ⟨x3,s3,sl3,cs3,N3,a3,n3,o3,⟨v3,rfl,r3⟩,e3,h3,y3,rfl⟩:=hM
 have g3:s3.rest.length≤s.rest.length:=Nat.le_trans h3 g2
 have A3:(A++[Value.int .u64 (x1:Int)]++[v2]++[v3]).length=f+3:=by rw [List.length_append,A2,n3]
 refine Sy.nil ?_
 have hAf:After rdTR s ⟨x1,x2,x3⟩ s3:=a1.bind (a2.bind (a3.bind (After.ret _ _)))
 have hLn:([Value.int .u64 (x1:Int)]++([v2]++([v3]))).length=3:=by rfl
 have hOn:∀ u∈([Value.int .u64 (x1:Int)]++([v2]++([v3]))),u.oneCell'=true:=ones_app o1 (ones_app o2 (o3))
 have hRp:repTR (rdB (N1++(N2++(N3)))) ([Value.int .u64 (x1:Int)]++([v2]++([v3]))) ⟨x1,x2,x3⟩:=⟨v2,v3,rfl,r1,LstR.le (rep:=repIN) monoIN (rdB_le λb h=>by simp [h]) r2,LstR.le (rep:=repOU) monoOU (rdB_le λb h=>by simp [h]) r3⟩
 exact Sy.retT0 rfl (CRS gc gr gx tx (A++(([Value.int .u64 (x1:Int)]++([v2]++([v3])))++Z)) sl3 s3.e (R++(N1++(N2++(N3))))) (λ_ h=>by simpa only [List.append_assoc,List.cons_append,List.nil_append] using h) (λ_=>⟨_,s3,sl3,_,_,hAf,hLn,hOn,hRp,e3,g3,y3,rfl⟩)
theorem signed_w:PutC 79 65 repSG okSG encSG (λ_=>65):=λw0 gc gw gx f bad s R b cs x hx _ hc hb hl w hw=>by
 obtain ⟨k,sg⟩:=x
 obtain ⟨rfl,h1⟩:=hx
 dsimp only at h1 hl
 have c0:XAt (rdC w0 R) gx f ([.int .i64 k]++sg.map bv):=hc
 have c1:XAt (rdC w0 R) gx (f+1) (sg.map bv):=c0.right (n:=1) rfl
 refine Sy.enterT (args:=[ptr gc,.pointer (some ⟨gx,f,none⟩)]) hw Tryz.func79 rfl kL ?_
 refine sC ?_
 refine sp rfl<|sp rfl<|sp rfl<|sP (.pointer (some ⟨gx,f,none⟩)) ?_
 refine Sy.callT (λw hw=>octet_w w0.inn gc gw gx f bad s R b k c0.one hb (by omega) w hw) (λu M hM=>?_)
 obtain ⟨s1,bad1,b1,q1,p1,rfl⟩:=hM
 have l1:b1.length≤b.length+1:=q1.len
 refine Sy.nil<|Sy.then_<|Sy.region ?_
 refine sp rfl<|sp rfl<|sp rfl<|sP (.pointer (some ⟨gx,f+1,none⟩))<|sP (.slice (some ⟨gx,f+1,none⟩) 64 64) ?_
 refine Sy.callT (λw hw=>raw_w w0.inn gc gw bad1 s1 R b1 sg _ (c1.byt h1 (by decide)) p1 (by omega) w hw) (λu M hM=>?_)
 obtain ⟨s2,bad2,b2,q2,p2,rfl⟩:=hM
 have l2:b2.length≤b1.length+sg.length:=q2.len
 refine Sy.nil ?_
 rw [h1] at q2
 have q:=q1.then_ q2
 simp only [Bool.and_true] at q
 exact Sy.retT0 rfl (CWS gc gw bad2 s2 R) (λ_ h=>h) (λ_=>⟨s2,bad2,b2,q,p2,rfl⟩)
theorem signed_r:GetC 79 65 ([Value.int .i64 0]++(((List.replicate 64 (0:UInt8)).map bv))) repSG rdSG:=λw0 gc gr gx f tx A Z sl s R S hS hA he hl hv w hw=>by
 refine Sy.enterT (args:=[ptr gc,.pointer (some ⟨gx,f,none⟩)]) hw Tryz.func79 rfl kL ?_
 refine sC ?_
 refine sp rfl<|sp rfl<|sp rfl<|sP (.pointer (some ⟨gx,f,none⟩)) ?_
 refine Sy.callT (λw hw=>octet_r w0.inn gc gr gx f tx (A) (((List.replicate 64 (0:UInt8)).map bv)++Z) sl s (R) S hS hA he (hl) hv w (by simpa only [List.append_assoc] using hw)) (λu M hM=>?_)
 obtain ⟨x1,s1,sl1,cs1,N1,a1,n1,o1,rfl,e1,h1,y1,rfl⟩:=hM
 have g1:s1.rest.length≤s.rest.length:=h1
 have A1:(A++[Value.int .i64 x1]).length=f+1:=by rw [List.length_append,hA,n1]
 refine Sy.nil<|Sy.then_<|Sy.region ?_
 refine sp rfl<|sp rfl<|sp rfl<|sP (.pointer (some ⟨gx,f+1,none⟩))<|sP (.slice (some ⟨gx,f+1,none⟩) 64 64) ?_
 refine Sy.callT (λw hw=>rawN_r 64 (by decide) (by decide) w0.inn gc gr gx (f+1) tx (A++[Value.int .i64 x1]) (Z) (List.replicate 64 0) (by decide) sl1 s1 (R++N1) S (λb h=>List.mem_append_left _ (hS b h)) A1 e1 (Nat.le_trans g1 hl) y1 w (by have e:A++[Value.int .i64 x1]++(((List.replicate 64 (0:UInt8)).map bv)++(Z))=A++([Value.int .i64 x1]++(((List.replicate 64 (0:UInt8)).map bv)++(Z))):=List.append_assoc ..; rw [e]; exact hw)) (λu M hM=>?_)
 obtain ⟨x2,s2,sl2,cs2,N2,a2,n2,o2,⟨rfl,r2⟩,e2,h2,y2,rfl⟩:=hM
 have g2:s2.rest.length≤s.rest.length:=Nat.le_trans h2 g1
 have A2:(A++[Value.int .i64 x1]++(x2.map bv)).length=f+65:=by rw [List.length_append,A1,n2]
 refine Sy.nil ?_
 have hAf:After rdSG s ⟨x1,x2⟩ s2:=a1.bind (a2.bind (After.ret _ _))
 have hLn:([Value.int .i64 x1]++(x2.map bv)).length=65:=by simp only [List.length_append,n2]; rfl
 have hOn:∀ u∈([Value.int .i64 x1]++(x2.map bv)),u.oneCell'=true:=ones_app o1 (o2)
 have hRp:repSG (rdB (N1++(N2))) ([Value.int .i64 x1]++(x2.map bv)) ⟨x1,x2⟩:=⟨rfl,r2⟩
 exact Sy.retT0 rfl (CRS gc gr gx tx (A++(([Value.int .i64 x1]++(x2.map bv))++Z)) sl2 s2.e (R++(N1++(N2)))) (λ_ h=>by simpa only [List.append_assoc,List.cons_append,List.nil_append] using h) (λ_=>⟨_,s2,sl2,_,_,hAf,hLn,hOn,hRp,e2,g2,y2,rfl⟩)
theorem write_txx {α:Type} {rep:Rdr→List Value→α→Prop} {ok:α→Bool} {enc:α→Byt} {wt:α→Nat} (hm:Mono rep) (hp:PutC 28 3 rep ok enc wt) (w:World) (cs:List Value) (x:α) (hx:rep (rdW w) cs x) (hl:cs.length=3) (hwt:wt x≤70368744170000) :
  Calls Tryz.prog 27 #[.agg cs.toArray,.func (.func 28) #[] #[]] w (GetsN w (BytE (ok x) (enc x))):=by
 refine Sy.enter (args:=[.agg cs.toArray,.func (.func 28) #[] #[]]) Tryz.func27 rfl kL ?_
 refine sC ?_
 refine sM 26 cs.toArray (λgx=>?_) kR (λw=>run_boxR rfl rfl (by kernel_rfl) hl w)
 refine sP (.slice none 0 0)<|sP (.int .i64 0) ?_
 refine sA ?_
 refine Sy.callN kR 57 #[] kF _ (λw _=>new_any w) (λv M hM=>?_)
 obtain ⟨gw,rfl,rfl⟩:=hM
 refine sP (.agg #[ptr gw,.pointer none,.bool false])<|sM 134 #[ptr gw,.pointer none,.bool false] (λgc=>?_)
 refine sp rfl ?_
 refine sA ?_
 refine Sy.permS (M:=CWS gc gw false nilS [(gx,26,cs.toArray)]) (Sy.perm_at [2,1,0] (by kernel_rfl) (by rfl)) ?_
 refine sp rfl<|sp rfl ?_
 refine Sy.callT (λw' hw=>hp (Base.of w) gc gw gx 0 false nilS [(gx,26,cs.toArray)] [] cs x (hm rdW_base hx) hl (memX (List.mem_singleton.2 rfl)) BS.nil (by show 0+_≤_; omega) w' hw) (λv M hM=>?_)
 obtain ⟨s,bad,b,q1,q2,rfl⟩:=hM
 have hbl:b.length≤wt x:=by have:=q1.len; simpa using this
 refine sG<|Sy.seq<|sC ?_
 refine sp rfl<|sp rfl<|sP (.pointer (some ⟨gc,2,none⟩))<|sS (.bool bad) (qc 0 2 rfl rfl Tryz.underlying4) ?_
 refine sG ?_
 cases bad
 ·have hok:ok x=true:=by
   have e:=q1.bad
   cases h:ok x with
   | true=>rfl
   | false=>rw [h] at e; cases e
  obtain rfl:b=enc x:=by have:=q1.bytes rfl; simpa using this
  refine sU<|Sy.skip<|sB ?_
  refine sp rfl<|sp rfl<|sP (.pointer (some ⟨gc,0,none⟩))<|sS (ptr gw) (qc 0 0 rfl rfl Tryz.underlying130) ?_
  refine Sy.callT (λw' hw=>bytes_any (Base.of w) gw s ((gc,134,#[ptr gw,.pointer none,.bool false])::[(gx,26,cs.toArray)]) (enc x) q2 (by omega) w' (hw.perm permCW)) (λv M hM=>?_)
  obtain ⟨N,hN,rfl⟩:=hM
  refine sp rfl<|sP (.int .i64 0) ?_
  refine sG<|Sy.ret ?_
  exact Sy.retGM2 N rfl (.inl (show _=_ by kernel_rfl)) (.inl (show _=_ by kernel_rfl)) (λ_ h=>h.less (List.sublist_append_right _ _)) (.inl ⟨hok,v,rfl,hN⟩)
 ·have hok:ok x=false:=by
   have e:=q1.bad
   cases h:ok x with
   | false=>rfl
   | true=>rw [h] at e; cases e
  refine sT<|sC ?_
  refine sP (.slice none 0 0)<|sP (.int .i64 120) ?_
  refine sG<|Sy.ret<|Sy.then_ret ?_
  exact Sy.retGM2 [] rfl (.inl (show _=_ by kernel_rfl)) (.inl (show _=_ by kernel_rfl)) (λ_ h=>h.none) (.inr ⟨hok,rfl,rfl⟩)
theorem ex_txx {α:Type} {rep:Rdr→List Value→α→Prop} {ok:α→Bool} {enc:α→Byt} {wt:α→Nat} (hm:Mono rep) (hp:PutC 28 3 rep ok enc wt) (w:World) (cs:List Value) (x:α) (hx:rep (rdW w) cs x) (hl:cs.length=3) (hwt:wt x≤70368744170000) :
  Calls Tryz.prog 7 #[.agg cs.toArray] w (GetsN w (BytE (ok x) (enc x))):=by
 refine Sy.enter (args:=[.agg cs.toArray]) Tryz.func7 rfl kL ?_
 refine sC ?_
 refine sM 26 cs.toArray (λgx=>?_) kR (λw=>run_boxR rfl rfl (by kernel_rfl) hl w)
 refine sP (.slice none 0 0)<|sP (.int .i64 0) ?_
 refine sA ?_
 refine sS (.agg cs.toArray) (rowC (R:=[(gx,26,cs.toArray)]) (memX (List.mem_singleton.2 rfl)) (λ_ h=>h) hl rfl Tryz.underlying26) ?_
 refine Sy.callN kR 27 #[.agg cs.toArray,.func (.func 28) #[] #[]] kF (BytE (ok x) (enc x)) (λw' hw=>write_txx (rep:=rep) hm hp w' cs x (hm (λg o u h=>rdC_world (R:=[]) hw (λ_ h=>by cases h) g o u (.inl h)) hx) hl hwt) (λv M hM=>?_)
 have hv:∃ a e:Value,v=.tuple #[a,e]:=by
  rcases hM with ⟨_,u,rfl,_⟩ | ⟨_,rfl,_⟩ <;> exact ⟨_,_,rfl⟩
 obtain ⟨a,e,rfl⟩:=hv
 refine sp rfl<|sp rfl<|sp rfl<|sp rfl ?_
 refine sG<|Sy.ret ?_
 exact Sy.retGM2 M rfl (.inl (show _=_ by kernel_rfl)) (.inl (show _=_ by kernel_rfl)) (λ_ h=>h.less (List.sublist_append_right _ _)) hM
theorem read_txx {α:Type} {rep:Rdr→List Value→α→Prop} {p:Ps α} (hm:Mono rep) (hp:GetC 28 3 ([Value.int .u64 0]++([Value.slice none 0 0]++([Value.slice none 0 0]))) rep p) (w:World) (v:Value) (b:Byt) (hv:BytR (rdW w) v b) (hl:b.length≤70368744177664) :
  Calls Tryz.prog 31 #[v,.func (.func 28) #[] #[]] w (GetsN w (RdE 3 ([Value.int .u64 0]++([Value.slice none 0 0]++([Value.slice none 0 0]))) rep (allP p b))):=by
 refine Sy.enter (args:=[v,.func (.func 28) #[] #[]]) Tryz.func31 rfl kL ?_
 refine sC ?_
 refine sM 26 ([Value.int .u64 0]++([Value.slice none 0 0]++([Value.slice none 0 0]))).toArray (λg4=>?_)
 refine sP (.int .i64 0) ?_
 refine sA ?_
 refine sM 26 ([Value.int .u64 0]++([Value.slice none 0 0]++([Value.slice none 0 0]))).toArray (λg6=>?_)
 refine sM 26 ([Value.int .u64 0]++([Value.slice none 0 0]++([Value.slice none 0 0]))).toArray (λg7=>?_)
 refine sA ?_
 refine sp rfl ?_
 refine Sy.callN kR 67 #[v] kF _ (λw' hw=>read_any w' v b (hv.at hw) hl) (λu M hM=>?_)
 obtain ⟨gr,sl,N0,hN0,rfl,rfl⟩:=hM
 refine sP (.agg #[.pointer none,ptr gr,.bool false])<|sM 134 #[.pointer none,ptr gr,.bool false] (λgc=>?_)
 refine Sy.permS (M:=CRS gc gr g6 26 ([]++(([Value.int .u64 0]++([Value.slice none 0 0]++([Value.slice none 0 0])))++[])) sl 0 ((g4,26,([Value.int .u64 0]++([Value.slice none 0 0]++([Value.slice none 0 0]))).toArray)::(g7,26,([Value.int .u64 0]++([Value.slice none 0 0]++([Value.slice none 0 0]))).toArray)::N0)) (Sy.flat_perm (ls:=[[(g4,26,([Value.int .u64 0]++([Value.slice none 0 0]++([Value.slice none 0 0]))).toArray)],[(g6,26,([Value.int .u64 0]++([Value.slice none 0 0]++([Value.slice none 0 0]))).toArray)],[(g7,26,([Value.int .u64 0]++([Value.slice none 0 0]++([Value.slice none 0 0]))).toArray)],[(gr,253,#[sl,.int .i64 0])],N0,[(gc,134,#[.pointer none,ptr gr,.bool false])]]) (ms:=[[(gc,134,#[.pointer none,ptr gr,.bool false])],[(g6,26,([Value.int .u64 0]++([Value.slice none 0 0]++([Value.slice none 0 0]))).toArray)],[(gr,253,#[sl,.int .i64 0])],[(g4,26,([Value.int .u64 0]++([Value.slice none 0 0]++([Value.slice none 0 0]))).toArray)],[(g7,26,([Value.int .u64 0]++([Value.slice none 0 0]++([Value.slice none 0 0]))).toArray)],N0]) [5,1,3,0,2,4] (by kernel_rfl) (by rfl) (by simp) (by simp)) ?_
 refine sp rfl ?_
 refine sA ?_
 refine sp rfl<|sp rfl ?_
 refine Sy.callT (λw' hw=>hp (Base.of w) gc gr g6 0 26 [] [] sl ⟨b,0⟩ ((g4,26,([Value.int .u64 0]++([Value.slice none 0 0]++([Value.slice none 0 0]))).toArray)::(g7,26,([Value.int .u64 0]++([Value.slice none 0 0]++([Value.slice none 0 0]))).toArray)::N0) N0 (λx h=>List.mem_cons_of_mem _ (List.mem_cons_of_mem _ h)) rfl (Nat.zero_le _) hl (hN0.byt.le rdB_base) w' hw) (λu M hM=>?_)
 obtain ⟨x,s',sl',cs,N,q1,q2,q3,q4,q5,q6,q7,rfl⟩:=hM
 rw [List.append_nil]
 obtain ⟨o1,o2⟩:=all_of q1
 obtain ⟨e,hE⟩:∃ e,e=if s'.e=0∧0<s'.rest.length then 113 else s'.e:=⟨_,rfl⟩
 have hEl:e≤200:=by rw [hE]; split <;> omega
 refine sG<|Sy.seq<|sC ?_
 obtain ⟨b1,hb1⟩:∃ z:Bool,z=decide (e≠0):=⟨_,rfl⟩
 refine sp rfl<|sp rfl<|sP (.pointer (some ⟨gc,1,none⟩))<|sS (ptr gr) (qc 0 1 rfl rfl Tryz.underlying132)<|sS (.int .i64 (e:Int)) (qg (λw' hw=>by rw [hE]; exact end_any (Base.of w) gr sl' s' N0 q5 q7 (List.mem_cons_of_mem _ (List.mem_cons_of_mem _ (List.mem_cons_self ..))) w' hw))<|sS (.bool b1) (Quiet.pure (exec_int .neq _ _ _ .i64 _ _ _ rfl rfl rfl (int_neq _ _ _ _ _ (by rw [hb1]; exact decide_eq_decide.2 (by omega))))) ?_
 refine sG ?_
 cases b1
 ·have l1:e=0:=Decidable.of_not_not (of_decide_eq_false hb1.symm)
  have l2:s'.e=0∧s'.rest=[]:=by
   by_cases h:s'.e=0∧0<s'.rest.length
   ·rw [if_pos h] at hE; omega
   ·rw [if_neg h] at hE
    exact ⟨by omega,List.eq_nil_of_length_eq_zero (by omega)⟩
  refine sU<|Sy.skip<|sB ?_
  refine sS (.agg cs.toArray) (Quiet.mid 1 g6 0 3 26 26 cs cs _ _ rfl kR rfl Tryz.underlying26 rfl kR (by rw [List.drop_zero,List.take_of_length_le (by omega)]) (by omega))<|sw 3 rfl cs.toArray (Writes.row 26 cs 3 _ _ rfl kR kR kR q2 (by kernel_rfl) q3)<|sP (.int .i64 0) ?_
  refine sG<|Sy.ret ?_
  exact Sy.retGM2 N rfl (.inl (Sy.Res.cell (ty':=26) g4 3 cs.toArray _ (by kernel_rfl) rfl Tryz.underlying26 rfl (by rw [List.size_toArray,q2]; kernel_rfl) rfl)) (.inl (show _=_ by kernel_rfl)) (λ_ h=>h.less (List.sublist_append_right [(gc,134,#[.pointer none,ptr gr,.bool false]),(g6,26,cs.toArray),(gr,253,#[sl',.int .i64 (s'.e:Int)]),(g4,26,cs.toArray),(g7,26,([Value.int .u64 0]++([Value.slice none 0 0]++([Value.slice none 0 0]))).toArray)] (N0++N) |> λh1=>(List.sublist_append_right N0 N).trans h1)) (.inl ⟨x,cs,o1 l2.1 l2.2,rfl,q2,q4⟩)
 ·have l1:e≠0:=of_decide_eq_true hb1.symm
  have l2:s'.e≠0∨s'.rest≠[]:=by
   by_cases h:s'.e=0∧0<s'.rest.length
   ·exact .inr (λe=>by rw [e] at h; exact absurd h.2 (by decide))
   ·rw [if_neg h] at hE; exact .inl (by omega)
  refine sT<|sC ?_
  refine sS (.agg ([Value.int .u64 0]++([Value.slice none 0 0]++([Value.slice none 0 0]))).toArray) (qk 4 0 3 rfl rfl Tryz.underlying26)<|sw 3 rfl ([Value.int .u64 0]++([Value.slice none 0 0]++([Value.slice none 0 0]))).toArray (wA rfl)<|sP (.int .i64 120) ?_
  refine sG<|Sy.ret<|Sy.then_ret ?_
  exact Sy.retGM2 [] rfl (.inl (Sy.Res.cell (ty':=26) g4 3 ([Value.int .u64 0]++([Value.slice none 0 0]++([Value.slice none 0 0]))).toArray _ (by kernel_rfl) rfl Tryz.underlying26 rfl (by kernel_rfl) rfl)) (.inl (show _=_ by kernel_rfl)) (λ_ h=>h.none) (.inr ⟨o2 l2,rfl,rfl⟩)
theorem rdx_txx {α:Type} {rep:Rdr→List Value→α→Prop} {p:Ps α} (hm:Mono rep) (hone:∀ {C:Rdr} {cs:List Value} {x:α},rep C cs x→∀ u∈cs,u.oneCell'=true) (hp:GetC 28 3 ([Value.int .u64 0]++([Value.slice none 0 0]++([Value.slice none 0 0]))) rep p) (w:World) (v:Value) (b:Byt) (hv:BytR (rdW w) v b) (hl:b.length≤70368744177664) :
  Calls Tryz.prog 9 #[v] w (GetsN w (RdE 3 ([Value.int .u64 0]++([Value.slice none 0 0]++([Value.slice none 0 0]))) rep (allP p b))):=by
 refine Sy.enter (args:=[v]) Tryz.func9 rfl kL ?_
 refine sC ?_
 refine sM 26 ([Value.int .u64 0]++([Value.slice none 0 0]++([Value.slice none 0 0]))).toArray (λg2=>?_)
 refine sP (.int .i64 0) ?_
 refine sA ?_
 refine sp rfl ?_
 refine Sy.callN kR 31 #[v,.func (.func 28) #[] #[]] kF _ (λw' hw=>read_txx (rep:=rep) (p:=p) hm hp w' v b (hv.at hw) hl) (λu M hM=>?_)
 rcases hM with ⟨x,cs,o1,rfl,q2,q4⟩ | ⟨o1,rfl,rfl⟩
 ·have q3:∀ u∈cs,u.oneCell'=true:=hone q4
  refine sp rfl<|sp rfl<|sw 0 rfl cs.toArray (Writes.row 26 cs 3 _ _ rfl kR kR kR q2 (by kernel_rfl) q3)<|sp rfl ?_
  refine sG<|Sy.ret ?_
  exact Sy.retGM2 M rfl (.inl (Sy.Res.cell (ty':=26) g2 0 cs.toArray _ (by kernel_rfl) rfl Tryz.underlying26 rfl (by rw [List.size_toArray,q2]; kernel_rfl) rfl)) (.inl (show _=_ by kernel_rfl)) (λ_ h=>h.less (List.sublist_cons_self _ _)) (.inl ⟨x,cs,o1,rfl,q2,q4⟩)
 ·refine sp rfl<|sp rfl<|sw 0 rfl ([Value.int .u64 0]++([Value.slice none 0 0]++([Value.slice none 0 0]))).toArray (wA rfl)<|sp rfl ?_
  refine sG<|Sy.ret ?_
  exact Sy.retGM2 [] rfl (.inl (Sy.Res.cell (ty':=26) g2 0 ([Value.int .u64 0]++([Value.slice none 0 0]++([Value.slice none 0 0]))).toArray _ (by kernel_rfl) rfl Tryz.underlying26 rfl (by kernel_rfl) rfl)) (.inl (show _=_ by kernel_rfl)) (λ_ h=>h.none) (.inr ⟨o1,rfl,rfl⟩)
end Wr
end
section
namespace Wr
open Go.RowKit Sy
set_option maxRecDepth 100000
set_option maxHeartbeats 4000000
section
variable {α:Type} {rep:Rdr→List Value→α→Prop} {ok:α→Bool} {enc:α→Byt} {wt:α→Nat}
theorem el_w_sgs (hm:Mono rep) (hp:PutC 79 65 rep ok enc wt) (w0:Base) (gc gw g4 g7:Nat) (bad:Bool) (s:Slc) (R:Blocks) (b:Byt) (u:Value) (cs:List Value) (x:α) (h4:(g4,85,#[ptr gc])∈R) (h7:(g7,184,#[.func (.func 79) #[] #[]])∈R) (hx:rep (rdC w0 R) cs x) (hl:cs.length=65) (hb:BS s b) (hlen:b.length+wt x≤70368744170000) (w:World) (hw:St w0 w (CWS gc gw bad s R)) :
  Calls Tryz.prog 138 #[u,.agg cs.toArray,ptr g7,ptr g4] w (Turns w0 (WrC gc gw R (ok x) (enc x) (wt x) bad b)):=by
 refine Sy.enterT (args:=[u,.agg cs.toArray,ptr g7,ptr g4]) hw Tryz.func138 rfl kL ?_
 refine sC ?_
 refine sM 182 cs.toArray (λg5=>?_) kR (λw=>run_boxR rfl rfl (by kernel_rfl) hl w)
 refine Sy.permS (List.Perm.of_eq eqCW) ?_
 refine Sy.nil<|Sy.then_<|Sy.region ?_
 refine sS (.func (.func 79) #[] #[]) (cellC (R:=R++[(g5,182,cs.toArray)]) (mem1 (inA h7)) inCW rfl Tryz.underlying184)<|sS (ptr gc) (cellC (R:=R++[(g5,182,cs.toArray)]) (mem1 (inA h4)) inCW rfl Tryz.underlying85) ?_
 refine Sy.callT (λw hw=>hp w0.inn gc gw g5 0 bad s (R++[(g5,182,cs.toArray)]) b cs x (hm (rdC_le (λ_ h=>inA h)) hx) hl (memX lastR) hb hlen w hw) (λv M hM=>?_)
 obtain ⟨s1,bad1,b1,h1,h2,rfl⟩:=hM
 refine Sy.nil ?_
 exact Sy.retT0 rfl (CWS gc gw bad1 s1 R) (λ_ h=>dropR h) (λ_=>⟨s1,bad1,b1,h1,h2,rfl⟩)
end
section
variable {α:Type} {rep:Rdr→List Value→α→Prop} {ok:α→Bool} {enc:α→Byt} {wt:α→Nat}
theorem put_w_sgs (hm:Mono rep) (hp:PutC 79 65 rep ok enc wt) (w0:Base) (gc gw g4 g7:Nat) (bad:Bool) (s:Slc) (R:Blocks) (b:Byt) (v:Value) (l:List α) (h4:(g4,85,#[ptr gc])∈R) (h7:(g7,184,#[.func (.func 79) #[] #[]])∈R) (hv:LstR (rdC w0 R) 65 rep v l) (hb:BS s b) (hlen:b.length+(9+(l.map wt).sum)≤70368744170000) (w:World) (hw:St w0 w (CWS gc gw bad s R)) :
  Calls Tryz.prog 137 #[ptr gw,v,.func (.func 138) #[] #[ptr g7,ptr g4]] w (Turns w0 (WrC gc gw R (l.all ok) (varB l.length++l.flatMap enc) (9+(l.map wt).sum) bad b)):=by
 obtain ⟨A,n,cp,rfl,h2,h3,h4',h5⟩:=hv
 have hmx:n<9223372036854775808:=by simp only [maxLen] at h4'; omega
 refine Sy.enterT (args:=[ptr gw,.slice A n cp,.func (.func 138) #[] #[ptr g7,ptr g4]]) hw Tryz.func137 rfl kL ?_
 refine sC ?_
 refine sp rfl<|sp rfl<|sP (.int .i64 (n:Int))<|sS (.int .u64 (n:Int)) (Quiet.pure (λw=>conv_i6 w _ _ _ n (by omega) rfl rfl)) ?_
 refine Sy.callT (λw hw=>var_any w0.inn gw s ((gc,134,#[ptr gw,.pointer none,.bool bad])::R) b n (by omega) hb (by omega) w (hw.perm permCW)) (λu M hM=>?_)
 obtain ⟨s1,hs1,rfl⟩:=hM
 have hn9:=varB_len n
 refine Sy.permS permCW.symm ?_
 refine Sy.nil<|sB ?_
 refine sp rfl<|sP (.int .i64 (n:Int))<|sP (.int .i64 0) ?_
 refine sG<|Sy.block ?_
 have hw0:Wrote true (varB n) 9 bad b bad (b++varB n):=Wrote.raw _ _ _ hn9
 have hsum:∀ i,((l.take i).map wt).sum≤(l.map wt).sum:=λi=>by
  have e:=congrArg (λz=>(z.map wt).sum) (List.take_append_drop i l)
  simp only [List.map_append,List.sum_append] at e
  omega
 refine Sy.loopT (Y:=Slc×Bool×Byt) n (λi y=>[(0,ptr gw),(2,.func (.func 138) #[] #[ptr g7,ptr g4]),(13,.slice A n cp),(14,.int .i64 (n:Int)),(15,.int .i64 (i:Int))]) (λi y=>CWS gc gw y.2.1 y.1 R) (λi y=>Wrote ((l.take i).all ok) (varB n++(l.take i).flatMap enc) (9+((l.take i).map wt).sum) bad b y.2.1 y.2.2∧BS y.1 y.2.2) (s1,bad,b++varB n) ⟨by
  have e:Wrote ((l.take 0).all ok) (varB n++(l.take 0).flatMap enc) (9+((l.take 0).map wt).sum) bad b bad (b++varB n):=by
   rw [List.take_zero]
   simpa using hw0
  exact e,hs1⟩ (all_cons kR (all_cons kR (all_cons kR (all_cons kR (all_cons kR all_nil))))) (λ_ h=>h) (λi y hi hy=>?_)
 obtain ⟨sy,bady,by_⟩:=y
 obtain ⟨hy,hsy⟩:=hy
 dsimp only at hy hsy ⊢
 refine sC ?_
 obtain ⟨b2,hb2⟩:∃ z:Bool,z=decide (i<n):=⟨_,rfl⟩
 refine sS (.bool b2) (Quiet.pure (exec_int .lss _ _ _ .i64 _ _ _ rfl rfl rfl (int_lss _ _ _ _ _ (by rw [hb2]; exact decide_eq_decide.2 (by omega))))) ?_
 refine sG<|Sy.seq ?_
 cases b2
 case' false =>
  have l2:¬ i<n:=of_decide_eq_false hb2.symm
  obtain rfl:i=n:=by omega
  rw [List.take_of_length_le (by omega)] at hy
  refine sU<|Sy.exit<|Sy.then_exit<|Sy.then_exit<|Sy.in_exit ?_
  rw [h2]
  exact Sy.retT0 rfl (CWS gc gw bady sy R) (λ_ h=>h) (λ_=>⟨sy,bady,by_,hy,hsy,rfl⟩)
 have l2:i<n:=of_decide_eq_true hb2.symm
 obtain ⟨x,hx⟩:∃ x,l[i]? = some x:=⟨_,List.getElem?_eq_getElem (by omega)⟩
 obtain ⟨g,o,rfl,hq⟩:=h5 (by intro e; rw [e] at hx; cases hx)
 obtain ⟨cs,c1,c2,c3,c4⟩:=hq i x hx
 have htk:l.take (i+1)=l.take i++[x]:=by rw [List.take_add_one,hx]; rfl
 have hsi:=hsum (i+1)
 rw [htk] at hsi
 simp only [List.map_append,List.sum_append,List.map_cons,List.map_nil,List.sum_cons,List.sum_nil] at hsi
 refine sT<|Sy.skip<|Sy.then_<|Sy.seq<|Sy.block<|sC ?_
 refine sS (.pointer (some ⟨g,o+i*65,none⟩)) (Quiet.pure (exec_atO 43 _ _ _ (some ⟨g,o,none⟩) g o n cp i 65 .i64 rfl rfl rfl rfl Tryz.underlying43 kF l2))<|sS (.agg cs.toArray) (rowC (R:=R) c4 inCW c1 rfl Tryz.underlying182) ?_
 refine sM 182 (([Value.int .i64 0]++(List.replicate 64 (0:UInt8)).map bv)).toArray (λg9=>?_)
 refine Sy.permS (List.Perm.of_eq eqCW) ?_
 refine Sy.permS (List.perm_append_comm (l₁:=CWS gc gw bady sy R) (l₂:=[(g9,182,(([Value.int .i64 0]++(List.replicate 64 (0:UInt8)).map bv)).toArray)]) |> λh=>(List.Perm.of_eq eqCW.symm).trans h) ?_
 refine sw 0 rfl cs.toArray (Writes.row 182 cs 65 _ _ rfl kR kR kR c1 (by kernel_rfl) c2) ?_
 refine Sy.permS ((List.perm_append_comm (l₁:=[(g9,182,cs.toArray)]) (l₂:=CWS gc gw bady sy R)).trans (List.Perm.of_eq eqCW)) ?_
 refine Sy.nil<|Sy.then_<|Sy.region ?_
 refine sp rfl<|sp rfl<|sS (.agg cs.toArray) (rowC (R:=R++[(g9,182,cs.toArray)]) (memX lastR) inCW c1 rfl Tryz.underlying182) ?_
 refine Sy.callT (λw hw=>el_w_sgs (rep:=rep) (ok:=ok) (enc:=enc) (wt:=wt) hm hp w0.inn gc gw g4 g7 bady sy (R++[(g9,182,cs.toArray)]) by_ (ptr gw) cs x (inA h4) (inA h7) (hm (rdC_le (λ_ h=>inA h)) c3) c1 hsy (by have hyl:=hy.len; omega) w hw) (λv M hM=>?_)
 obtain ⟨s3,bad3,b3,q1,q2,rfl⟩:=hM
 refine Sy.nil<|Sy.in_<|Sy.then_<|Sy.region ?_
 refine sS (.int .i64 ((i+1:Nat):Int)) (Quiet.pure (exec_int .add _ _ _ .i64 _ _ _ rfl rfl rfl (int_add _ _ _ _ _ ((wrap_i64 (by omega) (by omega)).trans (by omega)))))<|sp rfl ?_
 refine Sy.nil ?_
 have hW:=hy.then_ q1
 have hW':Wrote ((l.take (i+1)).all ok) (varB n++(l.take (i+1)).flatMap enc) (9+((l.take (i+1)).map wt).sum) bad b bad3 b3:=by
  rw [htk]
  simp only [List.all_append,List.flatMap_append,List.map_append,List.sum_append,List.all_cons,List.all_nil,List.flatMap_cons,List.flatMap_nil,List.map_cons,List.map_nil,List.sum_cons,List.sum_nil,Bool.and_true,List.append_nil,Nat.add_zero, ← List.append_assoc, ← Nat.add_assoc]
  simpa only [List.append_assoc,Nat.add_assoc] using hW
 exact Sy.againT (s3,bad3,b3) l2 ⟨hW',q2⟩ (all_cons kR (all_cons kR (all_cons kR (all_cons kR (all_cons kR all_nil))))) (λw h=>dropR h)
theorem list_w_sgs (hm:Mono rep) (hp:PutC 79 65 rep ok enc wt) (w0:Base) (gc gw gx f most:Nat) (hmo:most<1000000) (bad:Bool) (s:Slc) (R:Blocks) (b:Byt) (v:Value) (l:List α) (hv:LstR (rdC w0 R) 65 rep v l) (hc:rdC w0 R gx f v) (hb:BS s b) (hlen:b.length+(9+(l.map wt).sum)≤70368744170000) (w:World) (hw:St w0 w (CWS gc gw bad s R)) :
  Calls Tryz.prog 78 #[ptr gc,.pointer (some ⟨gx,f,none⟩),.int .i64 (most:Int),.func (.func 79) #[] #[]] w (Turns w0 (WrC gc gw R (decide (l.length≤most) && l.all ok) (varB l.length++l.flatMap enc) (9+(l.map wt).sum) bad b)):=by
 have hv0:=hv
 obtain ⟨A,n,cp,rfl,h2,h3,h4',h5⟩:=hv
 refine Sy.enterT (args:=[ptr gc,.pointer (some ⟨gx,f,none⟩),.int .i64 (most:Int),.func (.func 79) #[] #[]]) hw Tryz.func78 rfl kL ?_
 refine sC ?_
 refine sM 85 #[ptr gc] (λg4=>?_)
 refine Sy.permS (List.Perm.of_eq eqCW) ?_
 refine sM 184 #[.func (.func 79) #[] #[]] (λg7=>?_)
 refine Sy.permS (List.Perm.of_eq eqCW) ?_
 obtain ⟨R1,hR1⟩:∃ R1,R1=R++[(g4,85,#[ptr gc])]++[(g7,184,#[.func (.func 79) #[] #[]])]:=⟨_,rfl⟩
 rw [← hR1]
 have m4:(g4,85,#[ptr gc])∈R1:=by rw [hR1]; exact inA lastR
 have m7:(g7,184,#[.func (.func 79) #[] #[]])∈R1:=by rw [hR1]; exact lastR
 have mR:∀ x∈R,x∈R1:=λx hx=>by rw [hR1]; exact inA (inA hx)
 have hv1:LstR (rdC w0 R1) 65 rep (.slice A n cp) l:=LstR.le (rep:=rep) hm (rdC_le mR) hv0
 have hc1:rdC w0 R1 gx f (.slice A n cp):=rdC_le mR _ _ _ hc
 have back:∀ {w:World} {bad':Bool} {s':Slc},St w0 w (CWS gc gw bad' s' R1)→St w0 w (CWS gc gw bad' s' R):=λh=>by
  rw [hR1,List.append_assoc] at h
  exact dropR h
 refine sG<|Sy.seq<|sC ?_
 refine sS (ptr gc) (cellC (R:=R1) (mem1 m4) inCW rfl Tryz.underlying85)<|sS (.bool false) (qg (λw hw=>reads_w w0.inn gc _ _ (List.mem_cons_self ..) w hw)) ?_
 refine sG<|sU<|Sy.skip ?_
 obtain ⟨b1,hb1⟩:∃ z:Bool,z=decide (n≤most):=⟨_,rfl⟩
 refine sR (λj=>j == 7) ?_
 refine sD 0 rfl (ptr gc) (cellC (R:=R1) (mem1 m4) inCW rfl Tryz.underlying85)<|sa 1 rfl rfl<|sa 2 rfl rfl<|se 3 [4,6,7] rfl (.slice A n cp) (cellC (R:=R1) hc1 inCW rfl Tryz.underlying43)<|sb 4 rfl (.int .i64 (n:Int))<|sa 5 rfl rfl ?_
 refine sv 6 rfl (.bool b1) (exec_int .leq _ _ _ .i64 _ _ _ rfl rfl rfl (int_leq _ _ _ _ _ (by rw [hb1]; exact decide_eq_decide.2 (by omega)))) ?_
 refine Sy.soleD 7 rfl (λQ2 hq2=>?_)
 refine Sy.callT (λw hw=>must_w w0.inn gc gw bad b1 s R1 w hw) (λu M hM=>?_)
 subst hM
 refine hq2 _ _ ?_
 refine sE ?_
 obtain ⟨bad1,hbad1⟩:∃ x,x=(bad || !b1):=⟨_,rfl⟩
 rw [← hbad1]
 refine sB ?_
 refine sS (ptr gc) (cellC (R:=R1) (mem1 m4) inCW rfl Tryz.underlying85)<|sp rfl<|sP (.pointer (some ⟨gc,2,none⟩))<|sS (.bool bad1) (qc 0 2 rfl rfl Tryz.underlying4)<|sP (.bool (!bad1)) ?_
 refine sG ?_
 cases bad1
 ·have hb1t:bad=false∧b1=true:=by cases bad <;> cases b1 <;> first | exact ⟨rfl,rfl⟩ | cases hbad1
  obtain ⟨rfl,rfl⟩:=hb1t
  have e1:decide (l.length≤most)=true:=by rw [h2, ← hb1]
  rw [e1,Bool.true_and]
  refine sT ?_
  refine Sy.regionD (λj=>j == 8) kR ?_
  refine se 0 [1,2,3,8] rfl (ptr gc) (cellC (R:=R1) (mem1 m4) inCW rfl Tryz.underlying85)<|sa 1 rfl rfl<|sb 2 rfl (.pointer (some ⟨gc,0,none⟩))<|sD 3 rfl (ptr gw) (qc 0 0 rfl rfl Tryz.underlying130)<|sa 4 rfl rfl<|sa 5 rfl rfl<|sD 6 rfl (.slice A n cp) (cellC (R:=R1) hc1 inCW rfl Tryz.underlying43)<|sb 7 rfl (.func (.func 138) #[] #[ptr g7,ptr g4]) ?_
  refine Sy.soleD 8 rfl (λQ2 hq2=>?_)
  refine Sy.callT (λw hw=>put_w_sgs (rep:=rep) hm hp w0.inn gc gw g4 g7 false s R1 b (.slice A n cp) l m4 m7 hv1 hb hlen w hw) (λu M hM=>?_)
  obtain ⟨s1,bad2,b2,q1,q2,rfl⟩:=hM
  refine hq2 _ _ ?_
  refine sE ?_
  exact Sy.retT0 rfl (CWS gc gw bad2 s1 R) (λ_ h=>back h) (λ_=>⟨s1,bad2,b2,q1,q2,rfl⟩)
 ·refine sU<|Sy.skip ?_
  have e1:true=(bad || !(decide (l.length≤most) && l.all ok)):=by
   rw [h2, ← hb1]
   cases bad
   ·cases b1
    ·rfl
    ·cases hbad1
   ·rfl
  exact Sy.retT0 rfl (CWS gc gw true s R) (λ_ h=>back h) (λ_=>⟨s,true,b,⟨e1,λh=>(by cases h),by omega⟩,hb,rfl⟩)
end
section
variable {α:Type} {rep:Rdr→List Value→α→Prop} {p:Ps α}
theorem el_r_sgs (hm:Mono rep) (hp:GetC 79 65 ((([Value.int .i64 0]++(List.replicate 64 (0:UInt8)).map bv))) rep p) (w0:Base) (gc gr g4 g7:Nat) (sl:Value) (s:RS) (R S:Blocks) (hS:∀ b∈S,b∈R) (h4:(g4,85,#[ptr gc])∈R) (h7:(g7,184,#[.func (.func 79) #[] #[]])∈R) (he:s.e≤200) (hl:s.rest.length≤70368744177664) (hv:BytR (rdC w0 S) sl s.rest) (u:Value) (w:World) (hw:St w0 w (CRN gc gr sl s.e R)) :
  Calls Tryz.prog 136 #[u,ptr g7,ptr g4] w (Turns w0 (RdV 65 rep p w0 gc gr s R S)):=by
 refine Sy.enterT (args:=[u,ptr g7,ptr g4]) hw Tryz.func136 rfl kL ?_
 refine sC ?_
 refine sM 182 ((([Value.int .i64 0]++(List.replicate 64 (0:UInt8)).map bv))).toArray (λga=>?_)
 refine sA ?_
 refine sM 182 ((([Value.int .i64 0]++(List.replicate 64 (0:UInt8)).map bv))).toArray (λgb=>?_)
 refine Sy.permS (M:=CRS gc gr gb 182 ([]++(((([Value.int .i64 0]++(List.replicate 64 (0:UInt8)).map bv)))++[])) sl s.e ((ga,182,((([Value.int .i64 0]++(List.replicate 64 (0:UInt8)).map bv))).toArray)::R)) permEl ?_
 refine sA ?_
 refine sS (.func (.func 79) #[] #[]) (cellC (R:=(ga,182,((([Value.int .i64 0]++(List.replicate 64 (0:UInt8)).map bv))).toArray)::R) (mem1 (List.mem_cons_of_mem _ h7)) inCR rfl Tryz.underlying184)<|sS (ptr gc) (cellC (R:=(ga,182,((([Value.int .i64 0]++(List.replicate 64 (0:UInt8)).map bv))).toArray)::R) (mem1 (List.mem_cons_of_mem _ h4)) inCR rfl Tryz.underlying85) ?_
 refine Sy.callT (λw hw=>hp w0.inn gc gr gb 0 182 [] [] sl s ((ga,182,((([Value.int .i64 0]++(List.replicate 64 (0:UInt8)).map bv))).toArray)::R) S (λb h=>List.mem_cons_of_mem _ (hS b h)) rfl he hl hv w hw) (λv M hM=>?_)
 obtain ⟨x,s',sl',cs,N,q1,q2,q3,q4,q5,q6,q7,rfl⟩:=hM
 rw [List.append_nil]
 refine sA ?_
 refine sS (.agg cs.toArray) (Quiet.mid 1 gb 0 65 182 182 cs cs _ _ rfl kR rfl Tryz.underlying182 rfl kR (by rw [List.drop_zero,List.take_of_length_le (by omega)]) (by omega))<|sw 3 rfl cs.toArray (Writes.row 182 cs 65 _ _ rfl kR kR kR q2 (by kernel_rfl) q3) ?_
 refine sG<|Sy.ret ?_
 exact Sy.retT1 (CRN gc gr sl' s'.e (R++N)) rfl (.inl (Sy.Res.cell (ty':=182) ga 3 cs.toArray _ (by kernel_rfl) rfl Tryz.underlying182 rfl (by rw [List.size_toArray,q2]; kernel_rfl) rfl)) (λw h=>h.less (((List.Sublist.refl _).cons _ |>.cons_cons _).cons _ |>.cons_cons _)) ⟨x,s',sl',cs,N,q1,q2,q3,q4,rfl,q5,q6,q7,rfl⟩
theorem items_r_sgs (w:World) (gr most g4 g7:Nat):Calls Tryz.prog 187 #[ptr gr,.int .i64 (most:Int),.func (.func 136) #[] #[ptr g7,ptr g4]] w (GetsN w (λv M=>∃ a b c,v=.func (.func 224) #[] #[ptr a,ptr b,ptr c]∧M=[(a,132,#[ptr gr]),(b,3,#[.int .i64 (most:Int)]),(c,269,#[.func (.func 136) #[] #[ptr g7,ptr g4]])])):=by
 refine Sy.enter (args:=[ptr gr,.int .i64 (most:Int),.func (.func 136) #[] #[ptr g7,ptr g4]]) Tryz.func187 rfl kL ?_
 refine sC ?_
 refine sM 132 #[ptr gr] (λa=>?_)
 refine sM 3 #[.int .i64 (most:Int)] (λb=>?_)
 refine sM 269 #[.func (.func 136) #[] #[ptr g7,ptr g4]] (λc=>?_)
 refine sP .nilFunc ?_
 refine sA ?_
 refine sP (.func (.func 224) #[] #[ptr a,ptr b,ptr c])<|sp rfl ?_
 refine sG<|Sy.ret ?_
 exact Sy.retGM _ rfl (.inl (show _=_ by kernel_rfl)) (λ_ h=>h) ⟨a,b,c,rfl,rfl⟩
noncomputable def inf_sgs:TypeInfo:=(Tryz.prog.info? 182).getD default
theorem info_sgs:Tryz.prog.info? 182=some inf_sgs:=by kernel_rfl
def HYL_sgs (p:Ps α) (rep:Rdr→List Value→α→Prop) (w0:Base) (S:Blocks) (m:Nat) (s1:RS) (v:Nat×List Value) (y:YL α):Prop:=∃ x,y.x=some x∧y.l.length=v.1∧RowsOk 182 65 rep y.r y.N y.l∧rep (rdB y.N) v.2 x∧v.2.length=65∧(∀ u∈v.2,u.oneCell'=true)∧v.1<1000000
def HRL_sgs (rep:Rdr→List Value→α→Prop) (y y':YL α):Prop:=∃ x r',y.x=some x∧RowsOk 182 65 rep r' y.N (y.l++[x])∧y'={ y with l:=y.l++[x],r:=r',x:=none }
theorem iter_r_sgs (hm:Mono rep) (hp:GetC 79 65 ((([Value.int .i64 0]++(List.replicate 64 (0:UInt8)).map bv))) rep p) (w0:Base) (fz:World) (gc gr gl g4 g7 a b c most:Nat) (hmost:most<1000000) (R S:Blocks) (s0:RS) (sl0:Value) (hS:∀ x∈S,x∈R) (h4:(g4,85,#[ptr gc])∈R) (h7:(g7,184,#[.func (.func 79) #[] #[]])∈R) (ha:(a,132,#[ptr gr])∈R) (hb:(b,3,#[.int .i64 (most:Int)])∈R) (hc:(c,269,#[.func (.func 136) #[] #[ptr g7,ptr g4]])∈R) (he:s0.e≤200) (hl:s0.rest.length≤70368744177664) (hv:BytR (rdC w0 S) sl0 s0.rest) (lp:Nat) (w:World) (hw:St (ib w0.world fz) w (LBL gc gr gl 43 nilS s0.e sl0 R []))
  (hY:∀ (v:Nat×List Value) (y:YL α) (W:World),(HYL_sgs p rep w0 S 0 s0 v y)→St (ib w0.world fz) W (LBL gc gr gl 43 y.r y.s.e y.sl R y.N)→YieldAt Fence.wide 7 Tryz.prog lp #[.int .i64 (v.1:Int),.agg v.2.toArray] W (RoundT w0.world fz (HRL_sgs rep y) (λy=>LBL gc gr gl 43 y.r y.s.e y.sl R y.N))) :
  CallsIn Fence.wide 8 Tryz.prog 224 #[.func (.yield lp) #[] #[],ptr a,ptr b,ptr c] w (DoneT w0.world fz (λy:YL α=>∃ m s1,After (varP most) s0 m s1∧s1.rest.length≤s0.rest.length∧y.l.length≤most∧InvL 182 65 rep p w0 S m s1 y.l.length y∧(y.s.e=0→y.l.length=m)) (λy=>LBL gc gr gl 43 y.r y.s.e y.sl R y.N)):=by
 refine Sy.enterI (args:=[.func (.yield lp) #[] #[],ptr a,ptr b,ptr c]) hw Tryz.func224 rfl kL ?_
 refine sC ?_
 refine sS (ptr gr) (cellC (R:=R) (mem1 ha) lbl_in rfl Tryz.underlying132)<|sS (.int .i64 (most:Int)) (cellC (R:=R) (mem1 hb) lbl_in rfl Tryz.underlying3) ?_
 refine Sy.callT (λw hw=>count_any (ib w0.world fz) gr sl0 s0 ((gc,134,#[.pointer none,ptr gr,.bool false])::(gl,43,#[.slice none 0 0])::(R++[])) S (λx h=>List.mem_cons_of_mem _ (List.mem_cons_of_mem _ (List.mem_append_left _ (hS x h)))) most hmost he hv w (hw.perm swap12)) (λu M hM=>?_)
 obtain ⟨m,s1,sl1,hA1,⟨rfl,hm1⟩,hs1e,hs1r,hs1b,rfl⟩:=hM
 refine Sy.permS (M:=LBL gc gr gl 43 nilS s1.e sl1 R []) swap12.symm ?_
 refine sp rfl ?_
 refine sA ?_
 refine sP (.int .i64 0) ?_
 refine sG<|Sy.block ?_
 refine Sy.loopT (Y:=YL α) m (λi y=>[(0,.func (.yield lp) #[] #[]),(1,ptr a),(2,ptr b),(3,ptr c),(5,.int .i64 (m:Int)),(6,.int .i64 (i:Int))]) (λi y=>LBL gc gr gl 43 y.r y.s.e y.sl R y.N) (λi y=>InvL 182 65 rep p w0 S m s1 i y) ⟨[],nilS,s1,sl1,[],none⟩ ⟨rfl,RowsOk.nil,λh=>⟨h,rfl⟩,λh=>.inl h,hs1e,Nat.le_refl _,hs1b⟩ (all_cons kR (all_cons kR (all_cons kR (all_cons kR (all_cons kR (all_cons kR all_nil)))))) (λ_ h=>h) (λi y hi hy=>?_)
 obtain ⟨l,r,s,sl,N,xo⟩:=y
 have hylen:l.length=i:=hy.len
 refine Sy.seq<|sC ?_
 obtain ⟨b1,hb1⟩:∃ z:Bool,z=decide (i<m):=⟨_,rfl⟩
 refine sp rfl<|sp rfl<|sS (.bool b1) (Quiet.pure (exec_int .lss _ _ _ .i64 _ _ _ rfl rfl rfl (int_lss _ _ _ _ _ (by rw [hb1]; exact decide_eq_decide.2 (by omega)))))<|sp rfl ?_
 cases b1
 case' false =>
  have l1:¬ i<m:=of_decide_eq_false hb1.symm
  obtain rfl:i=m:=by omega
  refine sN<|sN<|sN<|sP (.bool false) ?_
  refine sG<|sU<|Sy.exit<|Sy.then_exit<|Sy.then_exit<|Sy.in_exit ?_
  exact Sy.retI rfl (λv w h=>⟨⟨_,rfl⟩,⟨l,r,s,sl,N,xo⟩,⟨i,s1,hA1,hs1r,by show l.length≤most; omega,by rw [show (⟨l,r,s,sl,N,xo⟩:YL α).l.length=i from hylen]; exact hy,λ_=>hylen⟩,h⟩) (.inr rfl)
 have l1:i<m:=of_decide_eq_true hb1.symm
 obtain ⟨b2,hb2⟩:∃ z:Bool,z=decide (s.e=0):=⟨_,rfl⟩
 have hse:s.e≤200:=hy.e
 refine sS (ptr gr) (cellC (R:=R) (mem1 ha) lbl_in rfl Tryz.underlying132)<|sS (.int .i64 (s.e:Int)) (qg (λw hw=>err_any (ib w0.world fz) gr sl s.e [] (List.mem_cons_of_mem _ (List.mem_cons_self ..)) w hw))<|sS (.bool b2) (Quiet.pure (exec_int .eql _ _ _ .i64 _ _ _ rfl rfl rfl (int_eql _ _ _ _ _ (by rw [hb2]; exact decide_eq_decide.2 (by omega)))))<|sP (.bool b2) ?_
 refine sG ?_
 cases b2
 case' false =>
  have l2:s.e≠0:=of_decide_eq_false hb2.symm
  refine sU<|Sy.exit<|Sy.then_exit<|Sy.then_exit<|Sy.in_exit ?_
  exact Sy.retI rfl (λv w h=>⟨⟨_,rfl⟩,⟨l,r,s,sl,N,xo⟩,⟨m,s1,hA1,hs1r,by show l.length≤most; omega,by rw [show (⟨l,r,s,sl,N,xo⟩:YL α).l.length=i from hylen]; exact hy,λh=>(l2 h).elim⟩,h⟩) (.inr rfl)
 have l2:s.e=0:=of_decide_eq_true hb2.symm
 obtain ⟨hs10,hrep⟩:=hy.yes l2
 refine sT<|Sy.skip<|Sy.then_<|Sy.seq<|Sy.block<|sC ?_
 refine sS (.func (.func 136) #[] #[ptr g7,ptr g4]) (cellC (R:=R) (mem1 hc) lbl_in rfl Tryz.underlying269)<|sS (ptr gr) (cellC (R:=R) (mem1 ha) lbl_in rfl Tryz.underlying132) ?_
 refine Sy.callT (λw hw=>el_r_sgs (rep:=rep) (p:=p) hm hp (ib w0.world fz) gc gr g4 g7 sl s ((gl,43,#[r.v])::(r.bl++(R++N))) S (λx h=>List.mem_cons_of_mem _ (List.mem_append_right _ (List.mem_append_left _ (hS x h)))) (List.mem_cons_of_mem _ (List.mem_append_right _ (List.mem_append_left _ h4))) (List.mem_cons_of_mem _ (List.mem_append_right _ (List.mem_append_left _ h7))) hse (Nat.le_trans (Nat.le_trans hy.rest hs1r) hl) hy.byt (ptr gr) w hw) (λu M hM=>?_)
 obtain ⟨x,s',sl',cs,N1,q1,q2,q3,q4,rfl,q5,q6,q7,rfl⟩:=hM
 obtain ⟨st1,st2⟩:=rep_step hrep l2 q1
 refine sM 182 ((([Value.int .i64 0]++(List.replicate 64 (0:UInt8)).map bv))).toArray (λgb=>?_)
 refine Sy.permS (M:=(gb,182,((([Value.int .i64 0]++(List.replicate 64 (0:UInt8)).map bv))).toArray)::LBL gc gr gl 43 r s'.e sl' R (N++N1)) ((List.perm_append_comm (l₂:=[(gb,182,((([Value.int .i64 0]++(List.replicate 64 (0:UInt8)).map bv))).toArray)])).trans (List.Perm.cons _ (List.Perm.of_eq (by simp only [List.cons_append,List.append_assoc,List.nil_append]; rfl)))) ?_
 refine sw 0 rfl cs.toArray (Writes.row 182 cs 65 _ _ rfl kR kR kR q2 (by kernel_rfl) q3) ?_
 refine Sy.nil<|Sy.then_ ?_
 have hR2:RowsOk 182 65 rep r (N++N1) l:=RowsOk.more (rep:=rep) hm hy.rows (λb h=>List.mem_append_left _ h)
 have hx2:rep (rdB (N++N1)) cs x:=hm (rdB_le λb h=>List.mem_append_right _ h) q4
 have drop1:∀ {w:World},St (ib w0.world fz) w ((gb,182,cs.toArray)::LBL gc gr gl 43 r s'.e sl' R (N++N1))→St (ib w0.world fz) w (LBL gc gr gl 43 r s'.e sl' R (N++N1)):=λh=>h.less (List.sublist_cons_self _ _)
 obtain ⟨b3,hb3⟩:∃ z:Bool,z=decide (s'.e≠0):=⟨_,rfl⟩
 have inl:∀ b∈R,b∈(gb,182,cs.toArray)::LBL gc gr gl 43 r s'.e sl' R (N++N1):=λb h=>List.mem_cons_of_mem _ (lbl_in b h)
 refine Sy.seq ?_
 cases b3
 case' true =>
  have l3:s'.e≠0:=of_decide_eq_true hb3.symm
  refine Sy.region ?_
  refine sS (ptr gr) (cellC (R:=R) (mem1 ha) inl rfl Tryz.underlying132)<|sS (.int .i64 (s'.e:Int)) (qg (λw hw=>err_any (ib w0.world fz) gr sl' s'.e [] (List.mem_cons_of_mem _ (List.mem_cons_of_mem _ (List.mem_cons_self ..))) w hw))<|sS (.bool true) (Quiet.pure (exec_int .neq _ _ _ .i64 _ _ _ rfl rfl rfl (int_neq _ _ _ _ _ (by rw [hb3]; exact decide_eq_decide.2 (by omega)))))<|sp rfl<|sN<|sN<|sN<|sN<|sN<|sP (.bool true) ?_
  refine sG<|sT<|Sy.ret<|Sy.in_ret<|Sy.then_ret<|Sy.then_ret<|Sy.in_ret ?_
  exact Sy.retI rfl (λv w h=>⟨⟨_,rfl⟩,⟨l,r,s',sl',N++N1,none⟩,⟨m,s1,hA1,hs1r,by show l.length≤most; omega,⟨rfl,hR2,λh=>(l3 h).elim,λ_=>.inr (st2 l3 m l1),q5,Nat.le_trans q6 hy.rest,q7⟩,λh=>(l3 h).elim⟩,drop1 h⟩) (.inl rfl)
 have l3:s'.e=0:=Decidable.of_not_not (of_decide_eq_false hb3.symm)
 refine Sy.regionI 7 (by rintro ⟨_,_,⟨_,hv⟩,_⟩; cases hv) kR ?_
 refine sS (ptr gr) (cellC (R:=R) (mem1 ha) inl rfl Tryz.underlying132)<|sS (.int .i64 (s'.e:Int)) (qg (λw hw=>err_any (ib w0.world fz) gr sl' s'.e [] (List.mem_cons_of_mem _ (List.mem_cons_of_mem _ (List.mem_cons_self ..))) w hw))<|sS (.bool false) (Quiet.pure (exec_int .neq _ _ _ .i64 _ _ _ rfl rfl rfl (int_neq _ _ _ _ _ (by rw [hb3]; exact decide_eq_decide.2 (by omega)))))<|sp rfl<|sp rfl<|sp rfl<|sS (.agg cs.toArray) (Quiet.mid 0 gb 0 65 182 182 cs cs _ _ rfl kR rfl Tryz.underlying182 rfl kR (by rw [List.drop_zero,List.take_of_length_le (by omega)]) (by omega)) ?_
 refine Sy.nil ?_
 refine Sy.yieldI (HR:=HRL_sgs rep ⟨l,r,s',sl',N++N1,some x⟩) (LR:=λy=>LBL gc gr gl 43 y.r y.s.e y.sl R y.N) rfl (by rintro ⟨_,_,⟨_,hv⟩,_⟩; cases hv) kR kR lp #[.int .i64 (i:Int),.agg cs.toArray] kF (λw hw=>hY (i,cs) ⟨l,r,s',sl',N++N1,some x⟩ w ⟨x,rfl,hylen,hR2,hx2,q2,q3,by show i<1000000; omega⟩ (drop1 hw)) (λy' hy'=>?_)
 obtain ⟨x',r',hx',hr',rfl⟩:=hy'
 obtain rfl:x=x':=by injection hx'
 refine sP (.bool false)<|sP (.bool false) ?_
 refine sG<|sU<|Sy.skip<|Sy.in_<|Sy.then_<|Sy.region ?_
 refine sp rfl<|sS (.int .i64 ((i+1:Nat):Int)) (Quiet.pure (exec_int .add _ _ _ .i64 _ _ _ rfl rfl rfl (int_add _ _ _ _ _ ((wrap_i64 (by omega) (by omega)).trans (by omega)))))<|sp rfl ?_
 refine Sy.nil ?_
 exact Sy.againT ⟨l++[x],r',s',sl',N++N1,none⟩ l1 ⟨by simp [hylen],hr',λ_=>⟨hs10,st1 l3⟩,λh=>(h l3).elim,q5,Nat.le_trans q6 hy.rest,q7⟩ (all_cons kR (all_cons kR (all_cons kR (all_cons kR (all_cons kR (all_cons kR all_nil)))))) (λw h=>h)
theorem list9_r_sgs (hm:Mono rep) (hp:GetC 79 65 ((([Value.int .i64 0]++(List.replicate 64 (0:UInt8)).map bv))) rep p) (w0:Base) (gc gr g4 g7 most:Nat) (hmost:most<1000000) (sl0:Value) (s0:RS) (R S:Blocks) (hS:∀ x∈S,x∈R) (h4:(g4,85,#[ptr gc])∈R) (h7:(g7,184,#[.func (.func 79) #[] #[]])∈R) (he:s0.e≤200) (hl:s0.rest.length≤70368744177664) (hv:BytR (rdC w0 S) sl0 s0.rest) (w:World) (hw:St w0 w (CRN gc gr sl0 s0.e R)) :
  Calls Tryz.prog 135 #[ptr gr,.int .i64 (most:Int),.func (.func 136) #[] #[ptr g7,ptr g4]] w (Turns w0 (RdL 65 rep (listP most p) w0 gc gr s0 R S)):=by
 refine Sy.enterTM (args:=[ptr gr,.int .i64 (most:Int),.func (.func 136) #[] #[ptr g7,ptr g4]]) hw Tryz.func135 rfl kL ?_
 refine sC ?_
 refine sP (.slice none 0 0) ?_
 refine sA ?_
 refine sM 43 #[.slice none 0 0] (λgl=>?_)
 refine sG<|Sy.seq<|sC ?_
 refine sp rfl<|sp rfl<|sp rfl ?_
 refine Sy.callN kR 187 #[ptr gr,.int .i64 (most:Int),.func (.func 136) #[] #[ptr g7,ptr g4]] kF _ (λw _=>items_r_sgs w gr most g4 g7) (λv M hM=>?_)
 obtain ⟨a,b,c,rfl,rfl⟩:=hM
 refine Sy.nil<|Sy.then_<|Sy.block ?_
 obtain ⟨R1,hR1⟩:∃ R1,R1=R++[(a,132,#[ptr gr]),(b,3,#[.int .i64 (most:Int)]),(c,269,#[.func (.func 136) #[] #[ptr g7,ptr g4]])]:=⟨_,rfl⟩
 refine Sy.permC (M:=LBL gc gr gl 43 nilS s0.e sl0 R1 []) (by rw [hR1]; exact permLB) ?_
 have mR:∀ x∈R,x∈R1:=λx hx=>by rw [hR1]; exact List.mem_append_left _ hx
 have ma:(a,132,#[ptr gr])∈R1:=by rw [hR1]; simp
 have mb:(b,3,#[.int .i64 (most:Int)])∈R1:=by rw [hR1]; simp
 have mc:(c,269,#[.func (.func 136) #[] #[ptr g7,ptr g4]])∈R1:=by rw [hR1]; simp
 refine Sy.rangeT (α:=Nat×List Value) (Y:=YL α) (Z:=Nat) 224 #[ptr a,ptr b,ptr c] kR kR (enters_of Tryz.func224 kR rfl) (λv=>#[.int .i64 (v.1:Int),.agg v.2.toArray]) (λ_=>rfl) (by decide)
  (HYL_sgs p rep w0 S 0 s0) (λ_ y=>LBL gc gr gl 43 y.r y.s.e y.sl R1 y.N) (λ_ _ z=>[(7,ptr gl),(9,ptr z)]) (λv y z=>(z,182,v.2.toArray)::LBL gc gr gl 43 y.r y.s.e y.sl R1 y.N) (λ_ y=>HRL_sgs rep y) (λy=>LBL gc gr gl 43 y.r y.s.e y.sl R1 y.N)
  (λy:YL α=>∃ m s1,After (varP most) s0 m s1∧s1.rest.length≤s0.rest.length∧y.l.length≤most∧InvL 182 65 rep p w0 S m s1 y.l.length y∧(y.s.e=0→y.l.length=m)) (λy=>LBL gc gr gl 43 y.r y.s.e y.sl R1 y.N) ?_ ?_ ?_ ?_
 ·exact λlp fz w hw hY=>iter_r_sgs (rep:=rep) (p:=p) hm hp w0 fz gc gr gl g4 g7 a b c most hmost R1 S s0 sl0 (λx h=>mR x (hS x h)) (mR _ h4) (mR _ h7) ma mb mc he hl hv lp w hw hY
 ·rintro lp fz ⟨i,cs⟩ ⟨l,r,s,sl,N,xo⟩ ⟨x,rfl,_,_,_,c1,c2,_⟩
  dsimp only at c1 c2 ⊢
  refine Sy.regionR (by rintro ⟨_,_,h⟩; exact h) kR ⟨_,rfl⟩ ?_
  refine sM 182 ((([Value.int .i64 0]++(List.replicate 64 (0:UInt8)).map bv))).toArray (λz=>?_)
  refine Sy.permS (M:=(z,182,((([Value.int .i64 0]++(List.replicate 64 (0:UInt8)).map bv))).toArray)::LBL gc gr gl 43 r s.e sl R1 N) (List.perm_append_comm (l₂:=[(z,182,((([Value.int .i64 0]++(List.replicate 64 (0:UInt8)).map bv))).toArray)])) ?_
  refine sw 0 rfl cs.toArray (Writes.row 182 cs 65 _ _ rfl kR kR kR c1 (by kernel_rfl) c2) ?_
  refine Sy.nil ?_
  exact apZ z (all_cons kR (all_cons kR all_nil)) (λ_ h=>h)
 ·rintro lp fz ⟨i,cs⟩ ⟨l,r,s,sl,N,xo⟩ z ⟨x,rfl,hli,⟨xs,x1,x2,x3⟩,hx,c1,c2,hi⟩
  dsimp only at c1 c2 hli x1 x2 x3 hx hi ⊢
  refine Sy.block ?_
  refine Sy.regionR (by rintro ⟨_,_,h⟩; exact h) kR ⟨_,rfl⟩ ?_
  refine sS r.v (qc 3 0 rfl rfl Tryz.underlying43)<|sS (.agg cs.toArray) (Quiet.mid 0 z 0 65 182 182 cs cs _ _ rfl kR rfl Tryz.underlying182 rfl kR (by rw [List.drop_zero,List.take_of_length_le (by omega)]) (by omega)) ?_
  refine Sy.make kR 182 cs.toArray (λg=>.slice (some ⟨g,0,none⟩) 1 1) (Makes.one 43 182 _ _ 65 _ cs rfl kR Tryz.underlying43 info_sgs rfl rfl c1 (by decide) (by decide)) (λg8=>?_)
  refine Sy.permS (M:=[(z,182,cs.toArray),(gc,134,#[.pointer none,ptr gr,.bool false]),(gr,253,#[sl,.int .i64 (s.e:Int)]),(gl,43,#[r.v]),(g8,182,cs.toArray)]++(r.bl++(R1++N))) (Sy.flat_perm (ls:=[[(z,182,cs.toArray),(gc,134,#[.pointer none,ptr gr,.bool false]),(gr,253,#[sl,.int .i64 (s.e:Int)]),(gl,43,#[r.v])],r.bl++(R1++N),[(g8,182,cs.toArray)]]) (ms:=[[(z,182,cs.toArray),(gc,134,#[.pointer none,ptr gr,.bool false]),(gr,253,#[sl,.int .i64 (s.e:Int)]),(gl,43,#[r.v])],[(g8,182,cs.toArray)],r.bl++(R1++N)]) [0,2,1] (by kernel_rfl) (by rfl) (by simp) (by simp)) ?_
  refine Sy.appendR kR 43 182 _ _ 65 72 Tryz.underlying43 info_sgs rfl rfl rfl rfl (by decide) _ _ rfl x1 kR cs c1 c2 4 g8 182 kR kR (by omega) (by simp only [maxLen]; omega) (λr' hr'=>?_)
  refine sw 3 rfl #[r'.v] (Writes.one 0 43 r'.v _ _ rfl kR kR kR hr'.cells.1 hr'.cells.2 Nat.zero_lt_one kR) ?_
  refine Sy.setT ?_
  refine Sy.nil<|Sy.in_ ?_
  exact bpZ ⟨l++[x],r',s,sl,N,none⟩ ⟨x,r',rfl,RowsOk.add (rep:=rep) x2 x3 hr' hx,rfl⟩ (λw h=>Sy.St.parts (ls:=[[(z,182,cs.toArray)],[(gc,134,#[.pointer none,ptr gr,.bool false]),(gr,253,#[sl,.int .i64 (s.e:Int)]),(gl,43,#[r'.v])],[(g8,182,cs.toArray)],r'.bl++(R1++N)]) (ms:=[[(gc,134,#[.pointer none,ptr gr,.bool false]),(gr,253,#[sl,.int .i64 (s.e:Int)]),(gl,43,#[r'.v])],r'.bl++(R1++N)]) [[(z,182,cs.toArray)],[(g8,182,cs.toArray)]] [1,3,0,2] (by kernel_rfl) (by rfl) (by simp) (by simp) h)
 ·rintro D fz ⟨l,r,s,sl,N,xo⟩ ⟨m,s1,hA1,hs1,hlm,hI,hdn⟩ hD hD2 hmk h0
  dsimp only at hI hdn hlm ⊢
  have hse:s.e≤200:=hI.e
  have hrest:s.rest.length≤s0.rest.length:=Nat.le_trans hI.rest hs1
  refine Sy.in_<|Sy.then_<|Sy.seq<|sC ?_
  obtain ⟨b1,hb1⟩:∃ z:Bool,z=decide (s.e≠0):=⟨_,rfl⟩
  refine sp rfl<|sS (.int .i64 (s.e:Int)) (qg (λw hw=>err_any (ab w0.world fz D) gr sl s.e [] (List.mem_cons_of_mem _ (List.mem_cons_self ..)) w hw))<|sS (.bool b1) (Quiet.pure (exec_int .neq _ _ _ .i64 _ _ _ rfl rfl rfl (int_neq _ _ _ _ _ (by rw [hb1]; exact decide_eq_decide.2 (by omega))))) ?_
  refine sG ?_
  cases b1
  ·have l1:s.e=0:=Decidable.of_not_not (of_decide_eq_false hb1.symm)
   obtain ⟨z1,z2⟩:=hI.yes l1
   rw [hdn l1] at z2
   refine sU<|Sy.skip<|sB ?_
   refine sS r.v (qc 2 0 rfl rfl Tryz.underlying43)<|sp rfl ?_
   refine sG<|Sy.ret ?_
   refine Sy.retTM1 (b0:=w0) (M:=CRN gc gr sl s.e (R++(N++r.bl))) rfl (.inl (show _=_ by kernel_rfl)) (λw h=>Sy.St.parts (ls:=[[(gc,134,#[.pointer none,ptr gr,.bool false]),(gr,253,#[sl,.int .i64 (s.e:Int)])],[(gl,43,#[r.v])],r.bl,R,[(a,132,#[ptr gr]),(b,3,#[.int .i64 (most:Int)]),(c,269,#[.func (.func 136) #[] #[ptr g7,ptr g4]])],N]) (ms:=[[(gc,134,#[.pointer none,ptr gr,.bool false]),(gr,253,#[sl,.int .i64 (s.e:Int)])],R,N,r.bl]) [[(gl,43,#[r.v])],[(a,132,#[ptr gr]),(b,3,#[.int .i64 (most:Int)]),(c,269,#[.func (.func 136) #[] #[ptr g7,ptr g4]])]] [0,3,5,2,1,4] (by kernel_rfl) (by rfl) (by rw [hR1]; simp) (by simp) h) ⟨l,s,sl,N++r.bl,hA1.bind ⟨λh=>(h z1).elim,λy q _ hy=>?_,λ_ hy=>?_⟩,RowsOk.lst (rep:=rep) hm hI.rows,hse,hrest,hI.byt,rfl⟩ hD hD2 hmk h0.out
   ·rw [z2] at hy
    cases hy
    exact ⟨rfl,by rw [← l1]⟩
   ·rw [z2] at hy; cases hy
  ·have l1:s.e≠0:=of_decide_eq_true hb1.symm
   refine sT<|sC ?_
   refine sP (.slice none 0 0) ?_
   refine sG<|Sy.ret<|Sy.then_ret ?_
   refine Sy.retTM1 (b0:=w0) (M:=CRN gc gr sl s.e (R++[])) rfl (.inl (show _=_ by kernel_rfl)) (λw h=>Sy.St.parts (ls:=[[(gc,134,#[.pointer none,ptr gr,.bool false]),(gr,253,#[sl,.int .i64 (s.e:Int)])],[(gl,43,#[r.v])],r.bl,R,[(a,132,#[ptr gr]),(b,3,#[.int .i64 (most:Int)]),(c,269,#[.func (.func 136) #[] #[ptr g7,ptr g4]])],N]) (ms:=[[(gc,134,#[.pointer none,ptr gr,.bool false]),(gr,253,#[sl,.int .i64 (s.e:Int)])],R]) [[(gl,43,#[r.v])],r.bl,[(a,132,#[ptr gr]),(b,3,#[.int .i64 (most:Int)]),(c,269,#[.func (.func 136) #[] #[ptr g7,ptr g4]])],N] [0,3,1,2,4,5] (by kernel_rfl) (by rfl) (by rw [hR1]; simp) (by simp) h) ⟨[],s,sl,[],hA1.bind ⟨λ_=>l1,λy q h1 hy=>?_,λ_ _=>l1⟩,⟨none,0,0,rfl,rfl,Nat.le_refl _,Nat.zero_le _,λh=>(h rfl).elim⟩,hse,hrest,hI.byt,rfl⟩ hD hD2 hmk h0.out
   rcases hI.no l1 with h | h
   ·exact (h h1).elim
   ·rw [h] at hy; cases hy
theorem list_r_sgs (hm:Mono rep) (hp:GetC 79 65 ((([Value.int .i64 0]++(List.replicate 64 (0:UInt8)).map bv))) rep p) (w0:Base) (gc gr gx f most:Nat) (hmost:most<1000000) (tx:TypeId) (A Z:List Value) (sl:Value) (s:RS) (R S:Blocks) (hS:∀ b∈S,b∈R) (hA:A.length=f) (he:s.e≤200) (hl:s.rest.length≤70368744177664) (hv:BytR (rdC w0 S) sl s.rest) (w:World) (hw:St w0 w (CRS gc gr gx tx (A++([Value.slice none 0 0]++Z)) sl s.e R)) :
  Calls Tryz.prog 78 #[ptr gc,.pointer (some ⟨gx,f,none⟩),.int .i64 (most:Int),.func (.func 79) #[] #[]] w (Turns w0 (RdT 1 (repL 65 rep) (listP most p) w0 gc gr gx tx A Z s R S)):=by
 refine Sy.enterT (args:=[ptr gc,.pointer (some ⟨gx,f,none⟩),.int .i64 (most:Int),.func (.func 79) #[] #[]]) hw Tryz.func78 rfl kL ?_
 refine sC ?_
 refine sM 85 #[ptr gc] (λg4=>?_)
 refine sM 184 #[.func (.func 79) #[] #[]] (λg7=>?_)
 obtain ⟨R1,hR1⟩:∃ R1,R1=R++([(g4,85,#[ptr gc])]++[(g7,184,#[.func (.func 79) #[] #[]])]):=⟨_,rfl⟩
 refine Sy.permS (M:=CRS gc gr gx tx (A++([Value.slice none 0 0]++Z)) sl s.e R1) (List.Perm.of_eq (by rw [hR1]; simp)) ?_
 have mR:∀ x∈R,x∈R1:=λx hx=>by rw [hR1]; exact List.mem_append_left _ hx
 have m4:(g4,85,#[ptr gc])∈R1:=by rw [hR1]; simp
 have m7:(g7,184,#[.func (.func 79) #[] #[]])∈R1:=by rw [hR1]; simp
 refine sG<|Sy.seq<|sC ?_
 refine sS (ptr gc) (cellC (R:=R1) (mem1 m4) inCR rfl Tryz.underlying85)<|sS (.bool true) (qg (λw hw=>reads_r w0.inn gc gr _ _ (List.mem_cons_self ..) w hw)) ?_
 refine sG<|sT<|sC ?_
 refine sp rfl<|sS (ptr gc) (cellC (R:=R1) (mem1 m4) inCR rfl Tryz.underlying85)<|sp rfl<|sP (.pointer (some ⟨gc,1,none⟩))<|sS (ptr gr) (qc 0 1 rfl rfl Tryz.underlying132)<|sp rfl<|sP (.func (.func 136) #[] #[ptr g7,ptr g4]) ?_
 refine Sy.callT (λw hw=>list9_r_sgs (rep:=rep) (p:=p) hm hp w0.inn gc gr g4 g7 most hmost sl s ((gx,tx,(A++([Value.slice none 0 0]++Z)).toArray)::R1) S (λx h=>List.mem_cons_of_mem _ (mR x (hS x h))) (List.mem_cons_of_mem _ m4) (List.mem_cons_of_mem _ m7) he hl hv w (hw.perm swap23)) (λv M hM=>?_)
 obtain ⟨l,s',sl',N,q1,q2,q3,q4,q5,rfl⟩:=hM
 refine Sy.permS (M:=CRS gc gr gx tx (A++([Value.slice none 0 0]++Z)) sl' s'.e (R1++N)) swap23 ?_
 refine sp rfl<|sw 1 rfl (A++([v]++Z)).toArray (Writes.one f 43 v _ _ rfl kR kR kR q2.cells.1 q2.cells.2 (by rw [List.size_toArray,List.length_append,hA]; exact Nat.lt_add_of_pos_right (Nat.succ_pos _)) (set_mid hA)) ?_
 refine sG<|Sy.ret<|Sy.then_ret ?_
 exact Sy.retT0 rfl (CRS gc gr gx tx (A++([v]++Z)) sl' s'.e (R++N)) (λw h=>Sy.St.parts (ls:=[[(gc,134,#[.pointer none,ptr gr,.bool false]),(gx,tx,(A++([v]++Z)).toArray),(gr,253,#[sl',.int .i64 (s'.e:Int)])],R,[(g4,85,#[ptr gc])]++[(g7,184,#[.func (.func 79) #[] #[]])],N]) (ms:=[[(gc,134,#[.pointer none,ptr gr,.bool false]),(gx,tx,(A++([v]++Z)).toArray),(gr,253,#[sl',.int .i64 (s'.e:Int)])],R,N]) [[(g4,85,#[ptr gc])]++[(g7,184,#[.func (.func 79) #[] #[]])]] [0,1,3,2] (by kernel_rfl) (by rfl) (by rw [hR1]; simp) (by simp) h) (λ_=>⟨l,s',sl',[v],N,q1,rfl,λu hu=>by rw [List.mem_singleton.1 hu]; exact q2.cells.2,⟨v,rfl,q2⟩,q3,q4,q5,rfl⟩)
end
section
variable {α:Type} {rep:Rdr→List Value→α→Prop} {ok:α→Bool} {enc:α→Byt} {wt:α→Nat}
theorem el_w_txs (hm:Mono rep) (hp:PutC 28 3 rep ok enc wt) (w0:Base) (gc gw g4 g7:Nat) (bad:Bool) (s:Slc) (R:Blocks) (b:Byt) (u:Value) (cs:List Value) (x:α) (h4:(g4,85,#[ptr gc])∈R) (h7:(g7,83,#[.func (.func 28) #[] #[]])∈R) (hx:rep (rdC w0 R) cs x) (hl:cs.length=3) (hb:BS s b) (hlen:b.length+wt x≤70368744170000) (w:World) (hw:St w0 w (CWS gc gw bad s R)) :
  Calls Tryz.prog 143 #[u,.agg cs.toArray,ptr g7,ptr g4] w (Turns w0 (WrC gc gw R (ok x) (enc x) (wt x) bad b)):=by
 refine Sy.enterT (args:=[u,.agg cs.toArray,ptr g7,ptr g4]) hw Tryz.func143 rfl kL ?_
 refine sC ?_
 refine sM 26 cs.toArray (λg5=>?_) kR (λw=>run_boxR rfl rfl (by kernel_rfl) hl w)
 refine Sy.permS (List.Perm.of_eq eqCW) ?_
 refine Sy.nil<|Sy.then_<|Sy.region ?_
 refine sS (.func (.func 28) #[] #[]) (cellC (R:=R++[(g5,26,cs.toArray)]) (mem1 (inA h7)) inCW rfl Tryz.underlying83)<|sS (ptr gc) (cellC (R:=R++[(g5,26,cs.toArray)]) (mem1 (inA h4)) inCW rfl Tryz.underlying85) ?_
 refine Sy.callT (λw hw=>hp w0.inn gc gw g5 0 bad s (R++[(g5,26,cs.toArray)]) b cs x (hm (rdC_le (λ_ h=>inA h)) hx) hl (memX lastR) hb hlen w hw) (λv M hM=>?_)
 obtain ⟨s1,bad1,b1,h1,h2,rfl⟩:=hM
 refine Sy.nil ?_
 exact Sy.retT0 rfl (CWS gc gw bad1 s1 R) (λ_ h=>dropR h) (λ_=>⟨s1,bad1,b1,h1,h2,rfl⟩)
end
section
variable {α:Type} {rep:Rdr→List Value→α→Prop} {ok:α→Bool} {enc:α→Byt} {wt:α→Nat}
theorem put_w_txs (hm:Mono rep) (hp:PutC 28 3 rep ok enc wt) (w0:Base) (gc gw g4 g7:Nat) (bad:Bool) (s:Slc) (R:Blocks) (b:Byt) (v:Value) (l:List α) (h4:(g4,85,#[ptr gc])∈R) (h7:(g7,83,#[.func (.func 28) #[] #[]])∈R) (hv:LstR (rdC w0 R) 3 rep v l) (hb:BS s b) (hlen:b.length+(9+(l.map wt).sum)≤70368744170000) (w:World) (hw:St w0 w (CWS gc gw bad s R)) :
  Calls Tryz.prog 142 #[ptr gw,v,.func (.func 143) #[] #[ptr g7,ptr g4]] w (Turns w0 (WrC gc gw R (l.all ok) (varB l.length++l.flatMap enc) (9+(l.map wt).sum) bad b)):=by
 obtain ⟨A,n,cp,rfl,h2,h3,h4',h5⟩:=hv
 have hmx:n<9223372036854775808:=by simp only [maxLen] at h4'; omega
 refine Sy.enterT (args:=[ptr gw,.slice A n cp,.func (.func 143) #[] #[ptr g7,ptr g4]]) hw Tryz.func142 rfl kL ?_
 refine sC ?_
 refine sp rfl<|sp rfl<|sP (.int .i64 (n:Int))<|sS (.int .u64 (n:Int)) (Quiet.pure (λw=>conv_i6 w _ _ _ n (by omega) rfl rfl)) ?_
 refine Sy.callT (λw hw=>var_any w0.inn gw s ((gc,134,#[ptr gw,.pointer none,.bool bad])::R) b n (by omega) hb (by omega) w (hw.perm permCW)) (λu M hM=>?_)
 obtain ⟨s1,hs1,rfl⟩:=hM
 have hn9:=varB_len n
 refine Sy.permS permCW.symm ?_
 refine Sy.nil<|sB ?_
 refine sp rfl<|sP (.int .i64 (n:Int))<|sP (.int .i64 0) ?_
 refine sG<|Sy.block ?_
 have hw0:Wrote true (varB n) 9 bad b bad (b++varB n):=Wrote.raw _ _ _ hn9
 have hsum:∀ i,((l.take i).map wt).sum≤(l.map wt).sum:=λi=>by
  have e:=congrArg (λz=>(z.map wt).sum) (List.take_append_drop i l)
  simp only [List.map_append,List.sum_append] at e
  omega
 refine Sy.loopT (Y:=Slc×Bool×Byt) n (λi y=>[(0,ptr gw),(2,.func (.func 143) #[] #[ptr g7,ptr g4]),(13,.slice A n cp),(14,.int .i64 (n:Int)),(15,.int .i64 (i:Int))]) (λi y=>CWS gc gw y.2.1 y.1 R) (λi y=>Wrote ((l.take i).all ok) (varB n++(l.take i).flatMap enc) (9+((l.take i).map wt).sum) bad b y.2.1 y.2.2∧BS y.1 y.2.2) (s1,bad,b++varB n) ⟨by
  have e:Wrote ((l.take 0).all ok) (varB n++(l.take 0).flatMap enc) (9+((l.take 0).map wt).sum) bad b bad (b++varB n):=by
   rw [List.take_zero]
   simpa using hw0
  exact e,hs1⟩ (all_cons kR (all_cons kR (all_cons kR (all_cons kR (all_cons kR all_nil))))) (λ_ h=>h) (λi y hi hy=>?_)
 obtain ⟨sy,bady,by_⟩:=y
 obtain ⟨hy,hsy⟩:=hy
 dsimp only at hy hsy ⊢
 refine sC ?_
 obtain ⟨b2,hb2⟩:∃ z:Bool,z=decide (i<n):=⟨_,rfl⟩
 refine sS (.bool b2) (Quiet.pure (exec_int .lss _ _ _ .i64 _ _ _ rfl rfl rfl (int_lss _ _ _ _ _ (by rw [hb2]; exact decide_eq_decide.2 (by omega))))) ?_
 refine sG<|Sy.seq ?_
 cases b2
 case' false =>
  have l2:¬ i<n:=of_decide_eq_false hb2.symm
  obtain rfl:i=n:=by omega
  rw [List.take_of_length_le (by omega)] at hy
  refine sU<|Sy.exit<|Sy.then_exit<|Sy.then_exit<|Sy.in_exit ?_
  rw [h2]
  exact Sy.retT0 rfl (CWS gc gw bady sy R) (λ_ h=>h) (λ_=>⟨sy,bady,by_,hy,hsy,rfl⟩)
 have l2:i<n:=of_decide_eq_true hb2.symm
 obtain ⟨x,hx⟩:∃ x,l[i]? = some x:=⟨_,List.getElem?_eq_getElem (by omega)⟩
 obtain ⟨g,o,rfl,hq⟩:=h5 (by intro e; rw [e] at hx; cases hx)
 obtain ⟨cs,c1,c2,c3,c4⟩:=hq i x hx
 have htk:l.take (i+1)=l.take i++[x]:=by rw [List.take_add_one,hx]; rfl
 have hsi:=hsum (i+1)
 rw [htk] at hsi
 simp only [List.map_append,List.sum_append,List.map_cons,List.map_nil,List.sum_cons,List.sum_nil] at hsi
 refine sT<|Sy.skip<|Sy.then_<|Sy.seq<|Sy.block<|sC ?_
 refine sS (.pointer (some ⟨g,o+i*3,none⟩)) (Quiet.pure (exec_atO 44 _ _ _ (some ⟨g,o,none⟩) g o n cp i 3 .i64 rfl rfl rfl rfl Tryz.underlying44 kF l2))<|sS (.agg cs.toArray) (rowC (R:=R) c4 inCW c1 rfl Tryz.underlying26) ?_
 refine sM 26 ([Value.int .u64 0]++([Value.slice none 0 0]++([Value.slice none 0 0]))).toArray (λg9=>?_)
 refine Sy.permS (List.Perm.of_eq eqCW) ?_
 refine Sy.permS (List.perm_append_comm (l₁:=CWS gc gw bady sy R) (l₂:=[(g9,26,([Value.int .u64 0]++([Value.slice none 0 0]++([Value.slice none 0 0]))).toArray)]) |> λh=>(List.Perm.of_eq eqCW.symm).trans h) ?_
 refine sw 0 rfl cs.toArray (Writes.row 26 cs 3 _ _ rfl kR kR kR c1 (by kernel_rfl) c2) ?_
 refine Sy.permS ((List.perm_append_comm (l₁:=[(g9,26,cs.toArray)]) (l₂:=CWS gc gw bady sy R)).trans (List.Perm.of_eq eqCW)) ?_
 refine Sy.nil<|Sy.then_<|Sy.region ?_
 refine sp rfl<|sp rfl<|sS (.agg cs.toArray) (rowC (R:=R++[(g9,26,cs.toArray)]) (memX lastR) inCW c1 rfl Tryz.underlying26) ?_
 refine Sy.callT (λw hw=>el_w_txs (rep:=rep) (ok:=ok) (enc:=enc) (wt:=wt) hm hp w0.inn gc gw g4 g7 bady sy (R++[(g9,26,cs.toArray)]) by_ (ptr gw) cs x (inA h4) (inA h7) (hm (rdC_le (λ_ h=>inA h)) c3) c1 hsy (by have hyl:=hy.len; omega) w hw) (λv M hM=>?_)
 obtain ⟨s3,bad3,b3,q1,q2,rfl⟩:=hM
 refine Sy.nil<|Sy.in_<|Sy.then_<|Sy.region ?_
 refine sS (.int .i64 ((i+1:Nat):Int)) (Quiet.pure (exec_int .add _ _ _ .i64 _ _ _ rfl rfl rfl (int_add _ _ _ _ _ ((wrap_i64 (by omega) (by omega)).trans (by omega)))))<|sp rfl ?_
 refine Sy.nil ?_
 have hW:=hy.then_ q1
 have hW':Wrote ((l.take (i+1)).all ok) (varB n++(l.take (i+1)).flatMap enc) (9+((l.take (i+1)).map wt).sum) bad b bad3 b3:=by
  rw [htk]
  simp only [List.all_append,List.flatMap_append,List.map_append,List.sum_append,List.all_cons,List.all_nil,List.flatMap_cons,List.flatMap_nil,List.map_cons,List.map_nil,List.sum_cons,List.sum_nil,Bool.and_true,List.append_nil,Nat.add_zero, ← List.append_assoc, ← Nat.add_assoc]
  simpa only [List.append_assoc,Nat.add_assoc] using hW
 exact Sy.againT (s3,bad3,b3) l2 ⟨hW',q2⟩ (all_cons kR (all_cons kR (all_cons kR (all_cons kR (all_cons kR all_nil))))) (λw h=>dropR h)
theorem list_w_txs (hm:Mono rep) (hp:PutC 28 3 rep ok enc wt) (w0:Base) (gc gw gx f most:Nat) (hmo:most<1000000) (bad:Bool) (s:Slc) (R:Blocks) (b:Byt) (v:Value) (l:List α) (hv:LstR (rdC w0 R) 3 rep v l) (hc:rdC w0 R gx f v) (hb:BS s b) (hlen:b.length+(9+(l.map wt).sum)≤70368744170000) (w:World) (hw:St w0 w (CWS gc gw bad s R)) :
  Calls Tryz.prog 80 #[ptr gc,.pointer (some ⟨gx,f,none⟩),.int .i64 (most:Int),.func (.func 28) #[] #[]] w (Turns w0 (WrC gc gw R (decide (l.length≤most) && l.all ok) (varB l.length++l.flatMap enc) (9+(l.map wt).sum) bad b)):=by
 have hv0:=hv
 obtain ⟨A,n,cp,rfl,h2,h3,h4',h5⟩:=hv
 refine Sy.enterT (args:=[ptr gc,.pointer (some ⟨gx,f,none⟩),.int .i64 (most:Int),.func (.func 28) #[] #[]]) hw Tryz.func80 rfl kL ?_
 refine sC ?_
 refine sM 85 #[ptr gc] (λg4=>?_)
 refine Sy.permS (List.Perm.of_eq eqCW) ?_
 refine sM 83 #[.func (.func 28) #[] #[]] (λg7=>?_)
 refine Sy.permS (List.Perm.of_eq eqCW) ?_
 obtain ⟨R1,hR1⟩:∃ R1,R1=R++[(g4,85,#[ptr gc])]++[(g7,83,#[.func (.func 28) #[] #[]])]:=⟨_,rfl⟩
 rw [← hR1]
 have m4:(g4,85,#[ptr gc])∈R1:=by rw [hR1]; exact inA lastR
 have m7:(g7,83,#[.func (.func 28) #[] #[]])∈R1:=by rw [hR1]; exact lastR
 have mR:∀ x∈R,x∈R1:=λx hx=>by rw [hR1]; exact inA (inA hx)
 have hv1:LstR (rdC w0 R1) 3 rep (.slice A n cp) l:=LstR.le (rep:=rep) hm (rdC_le mR) hv0
 have hc1:rdC w0 R1 gx f (.slice A n cp):=rdC_le mR _ _ _ hc
 have back:∀ {w:World} {bad':Bool} {s':Slc},St w0 w (CWS gc gw bad' s' R1)→St w0 w (CWS gc gw bad' s' R):=λh=>by
  rw [hR1,List.append_assoc] at h
  exact dropR h
 refine sG<|Sy.seq<|sC ?_
 refine sS (ptr gc) (cellC (R:=R1) (mem1 m4) inCW rfl Tryz.underlying85)<|sS (.bool false) (qg (λw hw=>reads_w w0.inn gc _ _ (List.mem_cons_self ..) w hw)) ?_
 refine sG<|sU<|Sy.skip ?_
 obtain ⟨b1,hb1⟩:∃ z:Bool,z=decide (n≤most):=⟨_,rfl⟩
 refine sR (λj=>j == 7) ?_
 refine sD 0 rfl (ptr gc) (cellC (R:=R1) (mem1 m4) inCW rfl Tryz.underlying85)<|sa 1 rfl rfl<|sa 2 rfl rfl<|se 3 [4,6,7] rfl (.slice A n cp) (cellC (R:=R1) hc1 inCW rfl Tryz.underlying44)<|sb 4 rfl (.int .i64 (n:Int))<|sa 5 rfl rfl ?_
 refine sv 6 rfl (.bool b1) (exec_int .leq _ _ _ .i64 _ _ _ rfl rfl rfl (int_leq _ _ _ _ _ (by rw [hb1]; exact decide_eq_decide.2 (by omega)))) ?_
 refine Sy.soleD 7 rfl (λQ2 hq2=>?_)
 refine Sy.callT (λw hw=>must_w w0.inn gc gw bad b1 s R1 w hw) (λu M hM=>?_)
 subst hM
 refine hq2 _ _ ?_
 refine sE ?_
 obtain ⟨bad1,hbad1⟩:∃ x,x=(bad || !b1):=⟨_,rfl⟩
 rw [← hbad1]
 refine sB ?_
 refine sS (ptr gc) (cellC (R:=R1) (mem1 m4) inCW rfl Tryz.underlying85)<|sp rfl<|sP (.pointer (some ⟨gc,2,none⟩))<|sS (.bool bad1) (qc 0 2 rfl rfl Tryz.underlying4)<|sP (.bool (!bad1)) ?_
 refine sG ?_
 cases bad1
 ·have hb1t:bad=false∧b1=true:=by cases bad <;> cases b1 <;> first | exact ⟨rfl,rfl⟩ | cases hbad1
  obtain ⟨rfl,rfl⟩:=hb1t
  have e1:decide (l.length≤most)=true:=by rw [h2, ← hb1]
  rw [e1,Bool.true_and]
  refine sT ?_
  refine Sy.regionD (λj=>j == 8) kR ?_
  refine se 0 [1,2,3,8] rfl (ptr gc) (cellC (R:=R1) (mem1 m4) inCW rfl Tryz.underlying85)<|sa 1 rfl rfl<|sb 2 rfl (.pointer (some ⟨gc,0,none⟩))<|sD 3 rfl (ptr gw) (qc 0 0 rfl rfl Tryz.underlying130)<|sa 4 rfl rfl<|sa 5 rfl rfl<|sD 6 rfl (.slice A n cp) (cellC (R:=R1) hc1 inCW rfl Tryz.underlying44)<|sb 7 rfl (.func (.func 143) #[] #[ptr g7,ptr g4]) ?_
  refine Sy.soleD 8 rfl (λQ2 hq2=>?_)
  refine Sy.callT (λw hw=>put_w_txs (rep:=rep) hm hp w0.inn gc gw g4 g7 false s R1 b (.slice A n cp) l m4 m7 hv1 hb hlen w hw) (λu M hM=>?_)
  obtain ⟨s1,bad2,b2,q1,q2,rfl⟩:=hM
  refine hq2 _ _ ?_
  refine sE ?_
  exact Sy.retT0 rfl (CWS gc gw bad2 s1 R) (λ_ h=>back h) (λ_=>⟨s1,bad2,b2,q1,q2,rfl⟩)
 ·refine sU<|Sy.skip ?_
  have e1:true=(bad || !(decide (l.length≤most) && l.all ok)):=by
   rw [h2, ← hb1]
   cases bad
   ·cases b1
    ·rfl
    ·cases hbad1
   ·rfl
  exact Sy.retT0 rfl (CWS gc gw true s R) (λ_ h=>back h) (λ_=>⟨s,true,b,⟨e1,λh=>(by cases h),by omega⟩,hb,rfl⟩)
end
section
variable {α:Type} {rep:Rdr→List Value→α→Prop} {p:Ps α}
theorem el_r_txs (hm:Mono rep) (hp:GetC 28 3 (([Value.int .u64 0]++([Value.slice none 0 0]++([Value.slice none 0 0])))) rep p) (w0:Base) (gc gr g4 g7:Nat) (sl:Value) (s:RS) (R S:Blocks) (hS:∀ b∈S,b∈R) (h4:(g4,85,#[ptr gc])∈R) (h7:(g7,83,#[.func (.func 28) #[] #[]])∈R) (he:s.e≤200) (hl:s.rest.length≤70368744177664) (hv:BytR (rdC w0 S) sl s.rest) (u:Value) (w:World) (hw:St w0 w (CRN gc gr sl s.e R)) :
  Calls Tryz.prog 141 #[u,ptr g7,ptr g4] w (Turns w0 (RdV 3 rep p w0 gc gr s R S)):=by
 refine Sy.enterT (args:=[u,ptr g7,ptr g4]) hw Tryz.func141 rfl kL ?_
 refine sC ?_
 refine sM 26 (([Value.int .u64 0]++([Value.slice none 0 0]++([Value.slice none 0 0])))).toArray (λga=>?_)
 refine sA ?_
 refine sM 26 (([Value.int .u64 0]++([Value.slice none 0 0]++([Value.slice none 0 0])))).toArray (λgb=>?_)
 refine Sy.permS (M:=CRS gc gr gb 26 ([]++((([Value.int .u64 0]++([Value.slice none 0 0]++([Value.slice none 0 0]))))++[])) sl s.e ((ga,26,(([Value.int .u64 0]++([Value.slice none 0 0]++([Value.slice none 0 0])))).toArray)::R)) permEl ?_
 refine sA ?_
 refine sS (.func (.func 28) #[] #[]) (cellC (R:=(ga,26,(([Value.int .u64 0]++([Value.slice none 0 0]++([Value.slice none 0 0])))).toArray)::R) (mem1 (List.mem_cons_of_mem _ h7)) inCR rfl Tryz.underlying83)<|sS (ptr gc) (cellC (R:=(ga,26,(([Value.int .u64 0]++([Value.slice none 0 0]++([Value.slice none 0 0])))).toArray)::R) (mem1 (List.mem_cons_of_mem _ h4)) inCR rfl Tryz.underlying85) ?_
 refine Sy.callT (λw hw=>hp w0.inn gc gr gb 0 26 [] [] sl s ((ga,26,(([Value.int .u64 0]++([Value.slice none 0 0]++([Value.slice none 0 0])))).toArray)::R) S (λb h=>List.mem_cons_of_mem _ (hS b h)) rfl he hl hv w hw) (λv M hM=>?_)
 obtain ⟨x,s',sl',cs,N,q1,q2,q3,q4,q5,q6,q7,rfl⟩:=hM
 rw [List.append_nil]
 refine sA ?_
 refine sS (.agg cs.toArray) (Quiet.mid 1 gb 0 3 26 26 cs cs _ _ rfl kR rfl Tryz.underlying26 rfl kR (by rw [List.drop_zero,List.take_of_length_le (by omega)]) (by omega))<|sw 3 rfl cs.toArray (Writes.row 26 cs 3 _ _ rfl kR kR kR q2 (by kernel_rfl) q3) ?_
 refine sG<|Sy.ret ?_
 exact Sy.retT1 (CRN gc gr sl' s'.e (R++N)) rfl (.inl (Sy.Res.cell (ty':=26) ga 3 cs.toArray _ (by kernel_rfl) rfl Tryz.underlying26 rfl (by rw [List.size_toArray,q2]; kernel_rfl) rfl)) (λw h=>h.less (((List.Sublist.refl _).cons _ |>.cons_cons _).cons _ |>.cons_cons _)) ⟨x,s',sl',cs,N,q1,q2,q3,q4,rfl,q5,q6,q7,rfl⟩
theorem items_r_txs (w:World) (gr most g4 g7:Nat):Calls Tryz.prog 190 #[ptr gr,.int .i64 (most:Int),.func (.func 141) #[] #[ptr g7,ptr g4]] w (GetsN w (λv M=>∃ a b c,v=.func (.func 225) #[] #[ptr a,ptr b,ptr c]∧M=[(a,132,#[ptr gr]),(b,3,#[.int .i64 (most:Int)]),(c,273,#[.func (.func 141) #[] #[ptr g7,ptr g4]])])):=by
 refine Sy.enter (args:=[ptr gr,.int .i64 (most:Int),.func (.func 141) #[] #[ptr g7,ptr g4]]) Tryz.func190 rfl kL ?_
 refine sC ?_
 refine sM 132 #[ptr gr] (λa=>?_)
 refine sM 3 #[.int .i64 (most:Int)] (λb=>?_)
 refine sM 273 #[.func (.func 141) #[] #[ptr g7,ptr g4]] (λc=>?_)
 refine sP .nilFunc ?_
 refine sA ?_
 refine sP (.func (.func 225) #[] #[ptr a,ptr b,ptr c])<|sp rfl ?_
 refine sG<|Sy.ret ?_
 exact Sy.retGM _ rfl (.inl (show _=_ by kernel_rfl)) (λ_ h=>h) ⟨a,b,c,rfl,rfl⟩
noncomputable def inf_txs:TypeInfo:=(Tryz.prog.info? 26).getD default
theorem info_txs:Tryz.prog.info? 26=some inf_txs:=by kernel_rfl
def HYL_txs (p:Ps α) (rep:Rdr→List Value→α→Prop) (w0:Base) (S:Blocks) (m:Nat) (s1:RS) (v:Nat×List Value) (y:YL α):Prop:=∃ x,y.x=some x∧y.l.length=v.1∧RowsOk 26 3 rep y.r y.N y.l∧rep (rdB y.N) v.2 x∧v.2.length=3∧(∀ u∈v.2,u.oneCell'=true)∧v.1<1000000
def HRL_txs (rep:Rdr→List Value→α→Prop) (y y':YL α):Prop:=∃ x r',y.x=some x∧RowsOk 26 3 rep r' y.N (y.l++[x])∧y'={ y with l:=y.l++[x],r:=r',x:=none }
theorem iter_r_txs (hm:Mono rep) (hp:GetC 28 3 (([Value.int .u64 0]++([Value.slice none 0 0]++([Value.slice none 0 0])))) rep p) (w0:Base) (fz:World) (gc gr gl g4 g7 a b c most:Nat) (hmost:most<1000000) (R S:Blocks) (s0:RS) (sl0:Value) (hS:∀ x∈S,x∈R) (h4:(g4,85,#[ptr gc])∈R) (h7:(g7,83,#[.func (.func 28) #[] #[]])∈R) (ha:(a,132,#[ptr gr])∈R) (hb:(b,3,#[.int .i64 (most:Int)])∈R) (hc:(c,273,#[.func (.func 141) #[] #[ptr g7,ptr g4]])∈R) (he:s0.e≤200) (hl:s0.rest.length≤70368744177664) (hv:BytR (rdC w0 S) sl0 s0.rest) (lp:Nat) (w:World) (hw:St (ib w0.world fz) w (LBL gc gr gl 44 nilS s0.e sl0 R []))
  (hY:∀ (v:Nat×List Value) (y:YL α) (W:World),(HYL_txs p rep w0 S 0 s0 v y)→St (ib w0.world fz) W (LBL gc gr gl 44 y.r y.s.e y.sl R y.N)→YieldAt Fence.wide 7 Tryz.prog lp #[.int .i64 (v.1:Int),.agg v.2.toArray] W (RoundT w0.world fz (HRL_txs rep y) (λy=>LBL gc gr gl 44 y.r y.s.e y.sl R y.N))) :
  CallsIn Fence.wide 8 Tryz.prog 225 #[.func (.yield lp) #[] #[],ptr a,ptr b,ptr c] w (DoneT w0.world fz (λy:YL α=>∃ m s1,After (varP most) s0 m s1∧s1.rest.length≤s0.rest.length∧y.l.length≤most∧InvL 26 3 rep p w0 S m s1 y.l.length y∧(y.s.e=0→y.l.length=m)) (λy=>LBL gc gr gl 44 y.r y.s.e y.sl R y.N)):=by
 refine Sy.enterI (args:=[.func (.yield lp) #[] #[],ptr a,ptr b,ptr c]) hw Tryz.func225 rfl kL ?_
 refine sC ?_
 refine sS (ptr gr) (cellC (R:=R) (mem1 ha) lbl_in rfl Tryz.underlying132)<|sS (.int .i64 (most:Int)) (cellC (R:=R) (mem1 hb) lbl_in rfl Tryz.underlying3) ?_
 refine Sy.callT (λw hw=>count_any (ib w0.world fz) gr sl0 s0 ((gc,134,#[.pointer none,ptr gr,.bool false])::(gl,44,#[.slice none 0 0])::(R++[])) S (λx h=>List.mem_cons_of_mem _ (List.mem_cons_of_mem _ (List.mem_append_left _ (hS x h)))) most hmost he hv w (hw.perm swap12)) (λu M hM=>?_)
 obtain ⟨m,s1,sl1,hA1,⟨rfl,hm1⟩,hs1e,hs1r,hs1b,rfl⟩:=hM
 refine Sy.permS (M:=LBL gc gr gl 44 nilS s1.e sl1 R []) swap12.symm ?_
 refine sp rfl ?_
 refine sA ?_
 refine sP (.int .i64 0) ?_
 refine sG<|Sy.block ?_
 refine Sy.loopT (Y:=YL α) m (λi y=>[(0,.func (.yield lp) #[] #[]),(1,ptr a),(2,ptr b),(3,ptr c),(5,.int .i64 (m:Int)),(6,.int .i64 (i:Int))]) (λi y=>LBL gc gr gl 44 y.r y.s.e y.sl R y.N) (λi y=>InvL 26 3 rep p w0 S m s1 i y) ⟨[],nilS,s1,sl1,[],none⟩ ⟨rfl,RowsOk.nil,λh=>⟨h,rfl⟩,λh=>.inl h,hs1e,Nat.le_refl _,hs1b⟩ (all_cons kR (all_cons kR (all_cons kR (all_cons kR (all_cons kR (all_cons kR all_nil)))))) (λ_ h=>h) (λi y hi hy=>?_)
 obtain ⟨l,r,s,sl,N,xo⟩:=y
 have hylen:l.length=i:=hy.len
 refine Sy.seq<|sC ?_
 obtain ⟨b1,hb1⟩:∃ z:Bool,z=decide (i<m):=⟨_,rfl⟩
 refine sp rfl<|sp rfl<|sS (.bool b1) (Quiet.pure (exec_int .lss _ _ _ .i64 _ _ _ rfl rfl rfl (int_lss _ _ _ _ _ (by rw [hb1]; exact decide_eq_decide.2 (by omega)))))<|sp rfl ?_
 cases b1
 case' false =>
  have l1:¬ i<m:=of_decide_eq_false hb1.symm
  obtain rfl:i=m:=by omega
  refine sN<|sN<|sN<|sP (.bool false) ?_
  refine sG<|sU<|Sy.exit<|Sy.then_exit<|Sy.then_exit<|Sy.in_exit ?_
  exact Sy.retI rfl (λv w h=>⟨⟨_,rfl⟩,⟨l,r,s,sl,N,xo⟩,⟨i,s1,hA1,hs1r,by show l.length≤most; omega,by rw [show (⟨l,r,s,sl,N,xo⟩:YL α).l.length=i from hylen]; exact hy,λ_=>hylen⟩,h⟩) (.inr rfl)
 have l1:i<m:=of_decide_eq_true hb1.symm
 obtain ⟨b2,hb2⟩:∃ z:Bool,z=decide (s.e=0):=⟨_,rfl⟩
 have hse:s.e≤200:=hy.e
 refine sS (ptr gr) (cellC (R:=R) (mem1 ha) lbl_in rfl Tryz.underlying132)<|sS (.int .i64 (s.e:Int)) (qg (λw hw=>err_any (ib w0.world fz) gr sl s.e [] (List.mem_cons_of_mem _ (List.mem_cons_self ..)) w hw))<|sS (.bool b2) (Quiet.pure (exec_int .eql _ _ _ .i64 _ _ _ rfl rfl rfl (int_eql _ _ _ _ _ (by rw [hb2]; exact decide_eq_decide.2 (by omega)))))<|sP (.bool b2) ?_
 refine sG ?_
 cases b2
 case' false =>
  have l2:s.e≠0:=of_decide_eq_false hb2.symm
  refine sU<|Sy.exit<|Sy.then_exit<|Sy.then_exit<|Sy.in_exit ?_
  exact Sy.retI rfl (λv w h=>⟨⟨_,rfl⟩,⟨l,r,s,sl,N,xo⟩,⟨m,s1,hA1,hs1r,by show l.length≤most; omega,by rw [show (⟨l,r,s,sl,N,xo⟩:YL α).l.length=i from hylen]; exact hy,λh=>(l2 h).elim⟩,h⟩) (.inr rfl)
 have l2:s.e=0:=of_decide_eq_true hb2.symm
 obtain ⟨hs10,hrep⟩:=hy.yes l2
 refine sT<|Sy.skip<|Sy.then_<|Sy.seq<|Sy.block<|sC ?_
 refine sS (.func (.func 141) #[] #[ptr g7,ptr g4]) (cellC (R:=R) (mem1 hc) lbl_in rfl Tryz.underlying273)<|sS (ptr gr) (cellC (R:=R) (mem1 ha) lbl_in rfl Tryz.underlying132) ?_
 refine Sy.callT (λw hw=>el_r_txs (rep:=rep) (p:=p) hm hp (ib w0.world fz) gc gr g4 g7 sl s ((gl,44,#[r.v])::(r.bl++(R++N))) S (λx h=>List.mem_cons_of_mem _ (List.mem_append_right _ (List.mem_append_left _ (hS x h)))) (List.mem_cons_of_mem _ (List.mem_append_right _ (List.mem_append_left _ h4))) (List.mem_cons_of_mem _ (List.mem_append_right _ (List.mem_append_left _ h7))) hse (Nat.le_trans (Nat.le_trans hy.rest hs1r) hl) hy.byt (ptr gr) w hw) (λu M hM=>?_)
 obtain ⟨x,s',sl',cs,N1,q1,q2,q3,q4,rfl,q5,q6,q7,rfl⟩:=hM
 obtain ⟨st1,st2⟩:=rep_step hrep l2 q1
 refine sM 26 (([Value.int .u64 0]++([Value.slice none 0 0]++([Value.slice none 0 0])))).toArray (λgb=>?_)
 refine Sy.permS (M:=(gb,26,(([Value.int .u64 0]++([Value.slice none 0 0]++([Value.slice none 0 0])))).toArray)::LBL gc gr gl 44 r s'.e sl' R (N++N1)) ((List.perm_append_comm (l₂:=[(gb,26,(([Value.int .u64 0]++([Value.slice none 0 0]++([Value.slice none 0 0])))).toArray)])).trans (List.Perm.cons _ (List.Perm.of_eq (by simp only [List.cons_append,List.append_assoc,List.nil_append]; rfl)))) ?_
 refine sw 0 rfl cs.toArray (Writes.row 26 cs 3 _ _ rfl kR kR kR q2 (by kernel_rfl) q3) ?_
 refine Sy.nil<|Sy.then_ ?_
 have hR2:RowsOk 26 3 rep r (N++N1) l:=RowsOk.more (rep:=rep) hm hy.rows (λb h=>List.mem_append_left _ h)
 have hx2:rep (rdB (N++N1)) cs x:=hm (rdB_le λb h=>List.mem_append_right _ h) q4
 have drop1:∀ {w:World},St (ib w0.world fz) w ((gb,26,cs.toArray)::LBL gc gr gl 44 r s'.e sl' R (N++N1))→St (ib w0.world fz) w (LBL gc gr gl 44 r s'.e sl' R (N++N1)):=λh=>h.less (List.sublist_cons_self _ _)
 obtain ⟨b3,hb3⟩:∃ z:Bool,z=decide (s'.e≠0):=⟨_,rfl⟩
 have inl:∀ b∈R,b∈(gb,26,cs.toArray)::LBL gc gr gl 44 r s'.e sl' R (N++N1):=λb h=>List.mem_cons_of_mem _ (lbl_in b h)
 refine Sy.seq ?_
 cases b3
 case' true =>
  have l3:s'.e≠0:=of_decide_eq_true hb3.symm
  refine Sy.region ?_
  refine sS (ptr gr) (cellC (R:=R) (mem1 ha) inl rfl Tryz.underlying132)<|sS (.int .i64 (s'.e:Int)) (qg (λw hw=>err_any (ib w0.world fz) gr sl' s'.e [] (List.mem_cons_of_mem _ (List.mem_cons_of_mem _ (List.mem_cons_self ..))) w hw))<|sS (.bool true) (Quiet.pure (exec_int .neq _ _ _ .i64 _ _ _ rfl rfl rfl (int_neq _ _ _ _ _ (by rw [hb3]; exact decide_eq_decide.2 (by omega)))))<|sp rfl<|sN<|sN<|sN<|sN<|sN<|sP (.bool true) ?_
  refine sG<|sT<|Sy.ret<|Sy.in_ret<|Sy.then_ret<|Sy.then_ret<|Sy.in_ret ?_
  exact Sy.retI rfl (λv w h=>⟨⟨_,rfl⟩,⟨l,r,s',sl',N++N1,none⟩,⟨m,s1,hA1,hs1r,by show l.length≤most; omega,⟨rfl,hR2,λh=>(l3 h).elim,λ_=>.inr (st2 l3 m l1),q5,Nat.le_trans q6 hy.rest,q7⟩,λh=>(l3 h).elim⟩,drop1 h⟩) (.inl rfl)
 have l3:s'.e=0:=Decidable.of_not_not (of_decide_eq_false hb3.symm)
 refine Sy.regionI 7 (by rintro ⟨_,_,⟨_,hv⟩,_⟩; cases hv) kR ?_
 refine sS (ptr gr) (cellC (R:=R) (mem1 ha) inl rfl Tryz.underlying132)<|sS (.int .i64 (s'.e:Int)) (qg (λw hw=>err_any (ib w0.world fz) gr sl' s'.e [] (List.mem_cons_of_mem _ (List.mem_cons_of_mem _ (List.mem_cons_self ..))) w hw))<|sS (.bool false) (Quiet.pure (exec_int .neq _ _ _ .i64 _ _ _ rfl rfl rfl (int_neq _ _ _ _ _ (by rw [hb3]; exact decide_eq_decide.2 (by omega)))))<|sp rfl<|sp rfl<|sp rfl<|sS (.agg cs.toArray) (Quiet.mid 0 gb 0 3 26 26 cs cs _ _ rfl kR rfl Tryz.underlying26 rfl kR (by rw [List.drop_zero,List.take_of_length_le (by omega)]) (by omega)) ?_
 refine Sy.nil ?_
 refine Sy.yieldI (HR:=HRL_txs rep ⟨l,r,s',sl',N++N1,some x⟩) (LR:=λy=>LBL gc gr gl 44 y.r y.s.e y.sl R y.N) rfl (by rintro ⟨_,_,⟨_,hv⟩,_⟩; cases hv) kR kR lp #[.int .i64 (i:Int),.agg cs.toArray] kF (λw hw=>hY (i,cs) ⟨l,r,s',sl',N++N1,some x⟩ w ⟨x,rfl,hylen,hR2,hx2,q2,q3,by show i<1000000; omega⟩ (drop1 hw)) (λy' hy'=>?_)
 obtain ⟨x',r',hx',hr',rfl⟩:=hy'
 obtain rfl:x=x':=by injection hx'
 refine sP (.bool false)<|sP (.bool false) ?_
 refine sG<|sU<|Sy.skip<|Sy.in_<|Sy.then_<|Sy.region ?_
 refine sp rfl<|sS (.int .i64 ((i+1:Nat):Int)) (Quiet.pure (exec_int .add _ _ _ .i64 _ _ _ rfl rfl rfl (int_add _ _ _ _ _ ((wrap_i64 (by omega) (by omega)).trans (by omega)))))<|sp rfl ?_
 refine Sy.nil ?_
 exact Sy.againT ⟨l++[x],r',s',sl',N++N1,none⟩ l1 ⟨by simp [hylen],hr',λ_=>⟨hs10,st1 l3⟩,λh=>(h l3).elim,q5,Nat.le_trans q6 hy.rest,q7⟩ (all_cons kR (all_cons kR (all_cons kR (all_cons kR (all_cons kR (all_cons kR all_nil)))))) (λw h=>h)
theorem list9_r_txs (hm:Mono rep) (hp:GetC 28 3 (([Value.int .u64 0]++([Value.slice none 0 0]++([Value.slice none 0 0])))) rep p) (w0:Base) (gc gr g4 g7 most:Nat) (hmost:most<1000000) (sl0:Value) (s0:RS) (R S:Blocks) (hS:∀ x∈S,x∈R) (h4:(g4,85,#[ptr gc])∈R) (h7:(g7,83,#[.func (.func 28) #[] #[]])∈R) (he:s0.e≤200) (hl:s0.rest.length≤70368744177664) (hv:BytR (rdC w0 S) sl0 s0.rest) (w:World) (hw:St w0 w (CRN gc gr sl0 s0.e R)) :
  Calls Tryz.prog 140 #[ptr gr,.int .i64 (most:Int),.func (.func 141) #[] #[ptr g7,ptr g4]] w (Turns w0 (RdL 3 rep (listP most p) w0 gc gr s0 R S)):=by
 refine Sy.enterTM (args:=[ptr gr,.int .i64 (most:Int),.func (.func 141) #[] #[ptr g7,ptr g4]]) hw Tryz.func140 rfl kL ?_
 refine sC ?_
 refine sP (.slice none 0 0) ?_
 refine sA ?_
 refine sM 44 #[.slice none 0 0] (λgl=>?_)
 refine sG<|Sy.seq<|sC ?_
 refine sp rfl<|sp rfl<|sp rfl ?_
 refine Sy.callN kR 190 #[ptr gr,.int .i64 (most:Int),.func (.func 141) #[] #[ptr g7,ptr g4]] kF _ (λw _=>items_r_txs w gr most g4 g7) (λv M hM=>?_)
 obtain ⟨a,b,c,rfl,rfl⟩:=hM
 refine Sy.nil<|Sy.then_<|Sy.block ?_
 obtain ⟨R1,hR1⟩:∃ R1,R1=R++[(a,132,#[ptr gr]),(b,3,#[.int .i64 (most:Int)]),(c,273,#[.func (.func 141) #[] #[ptr g7,ptr g4]])]:=⟨_,rfl⟩
 refine Sy.permC (M:=LBL gc gr gl 44 nilS s0.e sl0 R1 []) (by rw [hR1]; exact permLB) ?_
 have mR:∀ x∈R,x∈R1:=λx hx=>by rw [hR1]; exact List.mem_append_left _ hx
 have ma:(a,132,#[ptr gr])∈R1:=by rw [hR1]; simp
 have mb:(b,3,#[.int .i64 (most:Int)])∈R1:=by rw [hR1]; simp
 have mc:(c,273,#[.func (.func 141) #[] #[ptr g7,ptr g4]])∈R1:=by rw [hR1]; simp
 refine Sy.rangeT (α:=Nat×List Value) (Y:=YL α) (Z:=Nat) 225 #[ptr a,ptr b,ptr c] kR kR (enters_of Tryz.func225 kR rfl) (λv=>#[.int .i64 (v.1:Int),.agg v.2.toArray]) (λ_=>rfl) (by decide)
  (HYL_txs p rep w0 S 0 s0) (λ_ y=>LBL gc gr gl 44 y.r y.s.e y.sl R1 y.N) (λ_ _ z=>[(7,ptr gl),(9,ptr z)]) (λv y z=>(z,26,v.2.toArray)::LBL gc gr gl 44 y.r y.s.e y.sl R1 y.N) (λ_ y=>HRL_txs rep y) (λy=>LBL gc gr gl 44 y.r y.s.e y.sl R1 y.N)
  (λy:YL α=>∃ m s1,After (varP most) s0 m s1∧s1.rest.length≤s0.rest.length∧y.l.length≤most∧InvL 26 3 rep p w0 S m s1 y.l.length y∧(y.s.e=0→y.l.length=m)) (λy=>LBL gc gr gl 44 y.r y.s.e y.sl R1 y.N) ?_ ?_ ?_ ?_
 ·exact λlp fz w hw hY=>iter_r_txs (rep:=rep) (p:=p) hm hp w0 fz gc gr gl g4 g7 a b c most hmost R1 S s0 sl0 (λx h=>mR x (hS x h)) (mR _ h4) (mR _ h7) ma mb mc he hl hv lp w hw hY
 ·rintro lp fz ⟨i,cs⟩ ⟨l,r,s,sl,N,xo⟩ ⟨x,rfl,_,_,_,c1,c2,_⟩
  dsimp only at c1 c2 ⊢
  refine Sy.regionR (by rintro ⟨_,_,h⟩; exact h) kR ⟨_,rfl⟩ ?_
  refine sM 26 (([Value.int .u64 0]++([Value.slice none 0 0]++([Value.slice none 0 0])))).toArray (λz=>?_)
  refine Sy.permS (M:=(z,26,(([Value.int .u64 0]++([Value.slice none 0 0]++([Value.slice none 0 0])))).toArray)::LBL gc gr gl 44 r s.e sl R1 N) (List.perm_append_comm (l₂:=[(z,26,(([Value.int .u64 0]++([Value.slice none 0 0]++([Value.slice none 0 0])))).toArray)])) ?_
  refine sw 0 rfl cs.toArray (Writes.row 26 cs 3 _ _ rfl kR kR kR c1 (by kernel_rfl) c2) ?_
  refine Sy.nil ?_
  exact apZ z (all_cons kR (all_cons kR all_nil)) (λ_ h=>h)
 ·rintro lp fz ⟨i,cs⟩ ⟨l,r,s,sl,N,xo⟩ z ⟨x,rfl,hli,⟨xs,x1,x2,x3⟩,hx,c1,c2,hi⟩
  dsimp only at c1 c2 hli x1 x2 x3 hx hi ⊢
  refine Sy.block ?_
  refine Sy.regionR (by rintro ⟨_,_,h⟩; exact h) kR ⟨_,rfl⟩ ?_
  refine sS r.v (qc 3 0 rfl rfl Tryz.underlying44)<|sS (.agg cs.toArray) (Quiet.mid 0 z 0 3 26 26 cs cs _ _ rfl kR rfl Tryz.underlying26 rfl kR (by rw [List.drop_zero,List.take_of_length_le (by omega)]) (by omega)) ?_
  refine Sy.make kR 26 cs.toArray (λg=>.slice (some ⟨g,0,none⟩) 1 1) (Makes.one 44 26 _ _ 3 _ cs rfl kR Tryz.underlying44 info_txs rfl rfl c1 (by decide) (by decide)) (λg8=>?_)
  refine Sy.permS (M:=[(z,26,cs.toArray),(gc,134,#[.pointer none,ptr gr,.bool false]),(gr,253,#[sl,.int .i64 (s.e:Int)]),(gl,44,#[r.v]),(g8,26,cs.toArray)]++(r.bl++(R1++N))) (Sy.flat_perm (ls:=[[(z,26,cs.toArray),(gc,134,#[.pointer none,ptr gr,.bool false]),(gr,253,#[sl,.int .i64 (s.e:Int)]),(gl,44,#[r.v])],r.bl++(R1++N),[(g8,26,cs.toArray)]]) (ms:=[[(z,26,cs.toArray),(gc,134,#[.pointer none,ptr gr,.bool false]),(gr,253,#[sl,.int .i64 (s.e:Int)]),(gl,44,#[r.v])],[(g8,26,cs.toArray)],r.bl++(R1++N)]) [0,2,1] (by kernel_rfl) (by rfl) (by simp) (by simp)) ?_
  refine Sy.appendR kR 44 26 _ _ 3 56 Tryz.underlying44 info_txs rfl rfl rfl rfl (by decide) _ _ rfl x1 kR cs c1 c2 4 g8 26 kR kR (by omega) (by simp only [maxLen]; omega) (λr' hr'=>?_)
  refine sw 3 rfl #[r'.v] (Writes.one 0 44 r'.v _ _ rfl kR kR kR hr'.cells.1 hr'.cells.2 Nat.zero_lt_one kR) ?_
  refine Sy.setT ?_
  refine Sy.nil<|Sy.in_ ?_
  exact bpZ ⟨l++[x],r',s,sl,N,none⟩ ⟨x,r',rfl,RowsOk.add (rep:=rep) x2 x3 hr' hx,rfl⟩ (λw h=>Sy.St.parts (ls:=[[(z,26,cs.toArray)],[(gc,134,#[.pointer none,ptr gr,.bool false]),(gr,253,#[sl,.int .i64 (s.e:Int)]),(gl,44,#[r'.v])],[(g8,26,cs.toArray)],r'.bl++(R1++N)]) (ms:=[[(gc,134,#[.pointer none,ptr gr,.bool false]),(gr,253,#[sl,.int .i64 (s.e:Int)]),(gl,44,#[r'.v])],r'.bl++(R1++N)]) [[(z,26,cs.toArray)],[(g8,26,cs.toArray)]] [1,3,0,2] (by kernel_rfl) (by rfl) (by simp) (by simp) h)
 ·rintro D fz ⟨l,r,s,sl,N,xo⟩ ⟨m,s1,hA1,hs1,hlm,hI,hdn⟩ hD hD2 hmk h0
  dsimp only at hI hdn hlm ⊢
  have hse:s.e≤200:=hI.e
  have hrest:s.rest.length≤s0.rest.length:=Nat.le_trans hI.rest hs1
  refine Sy.in_<|Sy.then_<|Sy.seq<|sC ?_
  obtain ⟨b1,hb1⟩:∃ z:Bool,z=decide (s.e≠0):=⟨_,rfl⟩
  refine sp rfl<|sS (.int .i64 (s.e:Int)) (qg (λw hw=>err_any (ab w0.world fz D) gr sl s.e [] (List.mem_cons_of_mem _ (List.mem_cons_self ..)) w hw))<|sS (.bool b1) (Quiet.pure (exec_int .neq _ _ _ .i64 _ _ _ rfl rfl rfl (int_neq _ _ _ _ _ (by rw [hb1]; exact decide_eq_decide.2 (by omega))))) ?_
  refine sG ?_
  cases b1
  ·have l1:s.e=0:=Decidable.of_not_not (of_decide_eq_false hb1.symm)
   obtain ⟨z1,z2⟩:=hI.yes l1
   rw [hdn l1] at z2
   refine sU<|Sy.skip<|sB ?_
   refine sS r.v (qc 2 0 rfl rfl Tryz.underlying44)<|sp rfl ?_
   refine sG<|Sy.ret ?_
   refine Sy.retTM1 (b0:=w0) (M:=CRN gc gr sl s.e (R++(N++r.bl))) rfl (.inl (show _=_ by kernel_rfl)) (λw h=>Sy.St.parts (ls:=[[(gc,134,#[.pointer none,ptr gr,.bool false]),(gr,253,#[sl,.int .i64 (s.e:Int)])],[(gl,44,#[r.v])],r.bl,R,[(a,132,#[ptr gr]),(b,3,#[.int .i64 (most:Int)]),(c,273,#[.func (.func 141) #[] #[ptr g7,ptr g4]])],N]) (ms:=[[(gc,134,#[.pointer none,ptr gr,.bool false]),(gr,253,#[sl,.int .i64 (s.e:Int)])],R,N,r.bl]) [[(gl,44,#[r.v])],[(a,132,#[ptr gr]),(b,3,#[.int .i64 (most:Int)]),(c,273,#[.func (.func 141) #[] #[ptr g7,ptr g4]])]] [0,3,5,2,1,4] (by kernel_rfl) (by rfl) (by rw [hR1]; simp) (by simp) h) ⟨l,s,sl,N++r.bl,hA1.bind ⟨λh=>(h z1).elim,λy q _ hy=>?_,λ_ hy=>?_⟩,RowsOk.lst (rep:=rep) hm hI.rows,hse,hrest,hI.byt,rfl⟩ hD hD2 hmk h0.out
   ·rw [z2] at hy
    cases hy
    exact ⟨rfl,by rw [← l1]⟩
   ·rw [z2] at hy; cases hy
  ·have l1:s.e≠0:=of_decide_eq_true hb1.symm
   refine sT<|sC ?_
   refine sP (.slice none 0 0) ?_
   refine sG<|Sy.ret<|Sy.then_ret ?_
   refine Sy.retTM1 (b0:=w0) (M:=CRN gc gr sl s.e (R++[])) rfl (.inl (show _=_ by kernel_rfl)) (λw h=>Sy.St.parts (ls:=[[(gc,134,#[.pointer none,ptr gr,.bool false]),(gr,253,#[sl,.int .i64 (s.e:Int)])],[(gl,44,#[r.v])],r.bl,R,[(a,132,#[ptr gr]),(b,3,#[.int .i64 (most:Int)]),(c,273,#[.func (.func 141) #[] #[ptr g7,ptr g4]])],N]) (ms:=[[(gc,134,#[.pointer none,ptr gr,.bool false]),(gr,253,#[sl,.int .i64 (s.e:Int)])],R]) [[(gl,44,#[r.v])],r.bl,[(a,132,#[ptr gr]),(b,3,#[.int .i64 (most:Int)]),(c,273,#[.func (.func 141) #[] #[ptr g7,ptr g4]])],N] [0,3,1,2,4,5] (by kernel_rfl) (by rfl) (by rw [hR1]; simp) (by simp) h) ⟨[],s,sl,[],hA1.bind ⟨λ_=>l1,λy q h1 hy=>?_,λ_ _=>l1⟩,⟨none,0,0,rfl,rfl,Nat.le_refl _,Nat.zero_le _,λh=>(h rfl).elim⟩,hse,hrest,hI.byt,rfl⟩ hD hD2 hmk h0.out
   rcases hI.no l1 with h | h
   ·exact (h h1).elim
   ·rw [h] at hy; cases hy
theorem list_r_txs (hm:Mono rep) (hp:GetC 28 3 (([Value.int .u64 0]++([Value.slice none 0 0]++([Value.slice none 0 0])))) rep p) (w0:Base) (gc gr gx f most:Nat) (hmost:most<1000000) (tx:TypeId) (A Z:List Value) (sl:Value) (s:RS) (R S:Blocks) (hS:∀ b∈S,b∈R) (hA:A.length=f) (he:s.e≤200) (hl:s.rest.length≤70368744177664) (hv:BytR (rdC w0 S) sl s.rest) (w:World) (hw:St w0 w (CRS gc gr gx tx (A++([Value.slice none 0 0]++Z)) sl s.e R)) :
  Calls Tryz.prog 80 #[ptr gc,.pointer (some ⟨gx,f,none⟩),.int .i64 (most:Int),.func (.func 28) #[] #[]] w (Turns w0 (RdT 1 (repL 3 rep) (listP most p) w0 gc gr gx tx A Z s R S)):=by
 refine Sy.enterT (args:=[ptr gc,.pointer (some ⟨gx,f,none⟩),.int .i64 (most:Int),.func (.func 28) #[] #[]]) hw Tryz.func80 rfl kL ?_
 refine sC ?_
 refine sM 85 #[ptr gc] (λg4=>?_)
 refine sM 83 #[.func (.func 28) #[] #[]] (λg7=>?_)
 obtain ⟨R1,hR1⟩:∃ R1,R1=R++([(g4,85,#[ptr gc])]++[(g7,83,#[.func (.func 28) #[] #[]])]):=⟨_,rfl⟩
 refine Sy.permS (M:=CRS gc gr gx tx (A++([Value.slice none 0 0]++Z)) sl s.e R1) (List.Perm.of_eq (by rw [hR1]; simp)) ?_
 have mR:∀ x∈R,x∈R1:=λx hx=>by rw [hR1]; exact List.mem_append_left _ hx
 have m4:(g4,85,#[ptr gc])∈R1:=by rw [hR1]; simp
 have m7:(g7,83,#[.func (.func 28) #[] #[]])∈R1:=by rw [hR1]; simp
 refine sG<|Sy.seq<|sC ?_
 refine sS (ptr gc) (cellC (R:=R1) (mem1 m4) inCR rfl Tryz.underlying85)<|sS (.bool true) (qg (λw hw=>reads_r w0.inn gc gr _ _ (List.mem_cons_self ..) w hw)) ?_
 refine sG<|sT<|sC ?_
 refine sp rfl<|sS (ptr gc) (cellC (R:=R1) (mem1 m4) inCR rfl Tryz.underlying85)<|sp rfl<|sP (.pointer (some ⟨gc,1,none⟩))<|sS (ptr gr) (qc 0 1 rfl rfl Tryz.underlying132)<|sp rfl<|sP (.func (.func 141) #[] #[ptr g7,ptr g4]) ?_
 refine Sy.callT (λw hw=>list9_r_txs (rep:=rep) (p:=p) hm hp w0.inn gc gr g4 g7 most hmost sl s ((gx,tx,(A++([Value.slice none 0 0]++Z)).toArray)::R1) S (λx h=>List.mem_cons_of_mem _ (mR x (hS x h))) (List.mem_cons_of_mem _ m4) (List.mem_cons_of_mem _ m7) he hl hv w (hw.perm swap23)) (λv M hM=>?_)
 obtain ⟨l,s',sl',N,q1,q2,q3,q4,q5,rfl⟩:=hM
 refine Sy.permS (M:=CRS gc gr gx tx (A++([Value.slice none 0 0]++Z)) sl' s'.e (R1++N)) swap23 ?_
 refine sp rfl<|sw 1 rfl (A++([v]++Z)).toArray (Writes.one f 44 v _ _ rfl kR kR kR q2.cells.1 q2.cells.2 (by rw [List.size_toArray,List.length_append,hA]; exact Nat.lt_add_of_pos_right (Nat.succ_pos _)) (set_mid hA)) ?_
 refine sG<|Sy.ret<|Sy.then_ret ?_
 exact Sy.retT0 rfl (CRS gc gr gx tx (A++([v]++Z)) sl' s'.e (R++N)) (λw h=>Sy.St.parts (ls:=[[(gc,134,#[.pointer none,ptr gr,.bool false]),(gx,tx,(A++([v]++Z)).toArray),(gr,253,#[sl',.int .i64 (s'.e:Int)])],R,[(g4,85,#[ptr gc])]++[(g7,83,#[.func (.func 28) #[] #[]])],N]) (ms:=[[(gc,134,#[.pointer none,ptr gr,.bool false]),(gx,tx,(A++([v]++Z)).toArray),(gr,253,#[sl',.int .i64 (s'.e:Int)])],R,N]) [[(g4,85,#[ptr gc])]++[(g7,83,#[.func (.func 28) #[] #[]])]] [0,1,3,2] (by kernel_rfl) (by rfl) (by rw [hR1]; simp) (by simp) h) (λ_=>⟨l,s',sl',[v],N,q1,rfl,λu hu=>by rw [List.mem_singleton.1 hu]; exact q2.cells.2,⟨v,rfl,q2⟩,q3,q4,q5,rfl⟩)
end
theorem block_w:PutO 38 104 repBL okBL encBL wtBL:=λw0 gc gw gx f bad s R b cs x hx _ hc hb hl w hw=>by
 obtain ⟨hd,sg,tx⟩:=x
 obtain ⟨ch,vs,vt,rfl,h1,h2,h3⟩:=hx
 dsimp only at h1 h2 h3
 unfold wtBL at hl
 dsimp only at hl
 have e1:=lenHE h1
 have c0:OwnAt R gx f (ch++([vs]++[vt])):=hc
 have c1:OwnAt R gx (f+102) ([vs]++[vt]):=c0.right e1
 have c2:OwnAt R gx (f+103) [vt]:=c1.right (n:=1) rfl
 refine Sy.enterT (args:=[ptr gc,.pointer (some ⟨gx,f,none⟩)]) hw Tryz.func38 rfl kL ?_
 refine sC ?_
 refine sp rfl<|sp rfl<|sp rfl<|sP (.pointer (some ⟨gx,f,none⟩)) ?_
 refine Sy.callT (λw hw=>header_w w0.inn gc gw gx f bad s R b ch hd h1 e1 c0.left hb (by omega) w hw) (λu M hM=>?_)
 obtain ⟨s1,bad1,b1,q1,p1,rfl⟩:=hM
 have l1:b1.length≤b.length+wtHE hd:=q1.len
 refine sA ?_
 refine sp rfl<|sp rfl<|sp rfl<|sP (.pointer (some ⟨gx,f+102,none⟩)) ?_
 refine Sy.callT (λw hw=>list_w_sgs (rep:=repSG) monoSG signed_w w0.inn gc gw gx (f+102) 16 (by decide) bad1 s1 R b1 vs sg h2 (c1.at w0.inn).one p1 (by omega) w hw) (λu M hM=>?_)
 obtain ⟨s2,bad2,b2,q2,p2,rfl⟩:=hM
 have l2:b2.length≤b1.length+(9+(sg.map λ_=>65).sum):=q2.len
 refine Sy.nil<|Sy.then_<|Sy.region ?_
 refine sp rfl<|sp rfl<|sp rfl<|sP (.pointer (some ⟨gx,f+103,none⟩)) ?_
 refine Sy.callT (λw hw=>list_w_txs (rep:=repTR) monoTR tx_w w0.inn gc gw gx (f+103) 64 (by decide) bad2 s2 R b2 vt tx h3 (c2.at w0.inn).one p2 (by omega) w hw) (λu M hM=>?_)
 obtain ⟨s3,bad3,b3,q3,p3,rfl⟩:=hM
 have l3:b3.length≤b2.length+(9+(tx.map wtTR).sum):=q3.len
 refine Sy.nil ?_
 have q:=q1.then_ (q2.then_ q3)
 skip
 exact Sy.retT0 rfl (CWS gc gw bad3 s3 R) (λ_ h=>h) (λ_=>⟨s3,bad3,b3,q,p3,rfl⟩)
theorem block_r:GetC 38 104 ((Z32++([Value.int .u64 0]++([Value.int .u64 0]++(Z32++(Z32++([Value.slice none 0 0]++([Value.bool false]++([Value.int .i64 0]++[Value.slice none 0 0]))))))))++([Value.slice none 0 0]++([Value.slice none 0 0]))) repBL rdBL:=λw0 gc gr gx f tx A Z sl s R S hS hA he hl hv w hw=>by
 refine Sy.enterT (args:=[ptr gc,.pointer (some ⟨gx,f,none⟩)]) hw Tryz.func38 rfl kL ?_
 refine sC ?_
 refine sp rfl<|sp rfl<|sp rfl<|sP (.pointer (some ⟨gx,f,none⟩)) ?_
 refine Sy.callT (λw hw=>header_r w0.inn gc gr gx f tx (A) ([Value.slice none 0 0]++([Value.slice none 0 0]++Z)) sl s (R) S hS hA he (hl) hv w (by simpa only [List.append_assoc] using hw)) (λu M hM=>?_)
 obtain ⟨x1,s1,sl1,cs1,N1,a1,n1,o1,r1,e1,h1,y1,rfl⟩:=hM
 have g1:s1.rest.length≤s.rest.length:=h1
 have A1:(A++(cs1)).length=f+102:=by rw [List.length_append,hA,n1]
 refine sA ?_
 refine sp rfl<|sp rfl<|sp rfl<|sP (.pointer (some ⟨gx,f+102,none⟩)) ?_
 refine Sy.callT (λw hw=>list_r_sgs (rep:=repSG) (p:=rdSG) monoSG signed_r w0.inn gc gr gx (f+102) 16 (by decide) tx (A++(cs1)) ([Value.slice none 0 0]++Z) sl1 s1 (R++N1) S (λb h=>List.mem_append_left _ (hS b h)) A1 e1 (Nat.le_trans g1 hl) y1 w (by have e:A++(cs1)++([Value.slice none 0 0]++([Value.slice none 0 0]++Z))=A++(cs1++([Value.slice none 0 0]++([Value.slice none 0 0]++Z))):=List.append_assoc ..; rw [e]; exact hw)) (λu M hM=>?_)
 obtain ⟨x2,s2,sl2,cs2,N2,a2,n2,o2,⟨v2,rfl,r2⟩,e2,h2,y2,rfl⟩:=hM
 have g2:s2.rest.length≤s.rest.length:=Nat.le_trans h2 g1
 have A2:(A++(cs1)++[v2]).length=f+103:=by rw [List.length_append,A1,n2]
 refine Sy.nil<|Sy.then_<|Sy.region ?_
 refine sp rfl<|sp rfl<|sp rfl<|sP (.pointer (some ⟨gx,f+103,none⟩)) ?_
 refine Sy.callT (λw hw=>list_r_txs (rep:=repTR) (p:=rdTR) monoTR tx_r w0.inn gc gr gx (f+103) 64 (by decide) tx (A++(cs1)++[v2]) (Z) sl2 s2 (R++N1++N2) S (λb h=>List.mem_append_left _ (List.mem_append_left _ (hS b h))) A2 e2 (Nat.le_trans g2 hl) y2 w (by have e:A++(cs1)++[v2]++([Value.slice none 0 0]++(Z))=A++(cs1)++([v2]++([Value.slice none 0 0]++(Z))):=List.append_assoc ..; rw [e]; exact hw)) (λu M hM=>?_)
 obtain ⟨x3,s3,sl3,cs3,N3,a3,n3,o3,⟨v3,rfl,r3⟩,e3,h3,y3,rfl⟩:=hM
 have g3:s3.rest.length≤s.rest.length:=Nat.le_trans h3 g2
 have A3:(A++(cs1)++[v2]++[v3]).length=f+104:=by rw [List.length_append,A2,n3]
 refine Sy.nil ?_
 have hAf:After rdBL s ⟨x1,x2,x3⟩ s3:=a1.bind (a2.bind (a3.bind (After.ret _ _)))
 have hLn:(cs1++([v2]++([v3]))).length=104:=by simp only [List.length_append,n1]; rfl
 have hOn:∀ u∈(cs1++([v2]++([v3]))),u.oneCell'=true:=ones_app o1 (ones_app o2 (o3))
 have hRp:repBL (rdB (N1++(N2++(N3)))) (cs1++([v2]++([v3]))) ⟨x1,x2,x3⟩:=⟨cs1,v2,v3,rfl,monoHE (rdB_le λb h=>by simp [h]) r1,LstR.le (rep:=repSG) monoSG (rdB_le λb h=>by simp [h]) r2,LstR.le (rep:=repTR) monoTR (rdB_le λb h=>by simp [h]) r3⟩
 exact Sy.retT0 rfl (CRS gc gr gx tx (A++((cs1++([v2]++([v3])))++Z)) sl3 s3.e (R++(N1++(N2++(N3))))) (λ_ h=>by simpa only [List.append_assoc,List.cons_append,List.nil_append] using h) (λ_=>⟨_,s3,sl3,_,_,hAf,hLn,hOn,hRp,e3,g3,y3,rfl⟩)
theorem write_blk {α:Type} {rep:Rdr→List Value→α→Prop} {ok:α→Bool} {enc:α→Byt} {wt:α→Nat} (hm:Mono rep) (hp:PutO 38 104 rep ok enc wt) (w:World) (cs:List Value) (x:α) (hx:rep (rdW w) cs x) (hl:cs.length=104) (hwt:wt x≤70368744170000) :
  Calls Tryz.prog 37 #[.agg cs.toArray,.func (.func 38) #[] #[]] w (GetsN w (BytE (ok x) (enc x))):=by
 refine Sy.enter (args:=[.agg cs.toArray,.func (.func 38) #[] #[]]) Tryz.func37 rfl kL ?_
 refine sC ?_
 refine sM 46 cs.toArray (λgx=>?_) kR (λw=>run_boxR rfl rfl (by kernel_rfl) hl w)
 refine sP (.slice none 0 0)<|sP (.int .i64 0) ?_
 refine sA ?_
 refine Sy.callN kR 57 #[] kF _ (λw _=>new_any w) (λv M hM=>?_)
 obtain ⟨gw,rfl,rfl⟩:=hM
 refine sP (.agg #[ptr gw,.pointer none,.bool false])<|sM 134 #[ptr gw,.pointer none,.bool false] (λgc=>?_)
 refine sp rfl ?_
 refine sA ?_
 refine Sy.permS (M:=CWS gc gw false nilS [(gx,46,cs.toArray)]) (Sy.perm_at [2,1,0] (by kernel_rfl) (by rfl)) ?_
 refine sp rfl<|sp rfl ?_
 refine Sy.callT (λw' hw=>hp (Base.of w) gc gw gx 0 false nilS [(gx,46,cs.toArray)] [] cs x (hm rdW_base hx) hl (ownX (List.mem_singleton.2 rfl)) BS.nil (by show 0+_≤_; omega) w' hw) (λv M hM=>?_)
 obtain ⟨s,bad,b,q1,q2,rfl⟩:=hM
 have hbl:b.length≤wt x:=by have:=q1.len; simpa using this
 refine sG<|Sy.seq<|sC ?_
 refine sp rfl<|sp rfl<|sP (.pointer (some ⟨gc,2,none⟩))<|sS (.bool bad) (qc 0 2 rfl rfl Tryz.underlying4) ?_
 refine sG ?_
 cases bad
 ·have hok:ok x=true:=by
   have e:=q1.bad
   cases h:ok x with
   | true=>rfl
   | false=>rw [h] at e; cases e
  obtain rfl:b=enc x:=by have:=q1.bytes rfl; simpa using this
  refine sU<|Sy.skip<|sB ?_
  refine sp rfl<|sp rfl<|sP (.pointer (some ⟨gc,0,none⟩))<|sS (ptr gw) (qc 0 0 rfl rfl Tryz.underlying130) ?_
  refine Sy.callT (λw' hw=>bytes_any (Base.of w) gw s ((gc,134,#[ptr gw,.pointer none,.bool false])::[(gx,46,cs.toArray)]) (enc x) q2 (by omega) w' (hw.perm permCW)) (λv M hM=>?_)
  obtain ⟨N,hN,rfl⟩:=hM
  refine sp rfl<|sP (.int .i64 0) ?_
  refine sG<|Sy.ret ?_
  exact Sy.retGM2 N rfl (.inl (show _=_ by kernel_rfl)) (.inl (show _=_ by kernel_rfl)) (λ_ h=>h.less (List.sublist_append_right _ _)) (.inl ⟨hok,v,rfl,hN⟩)
 ·have hok:ok x=false:=by
   have e:=q1.bad
   cases h:ok x with
   | false=>rfl
   | true=>rw [h] at e; cases e
  refine sT<|sC ?_
  refine sP (.slice none 0 0)<|sP (.int .i64 120) ?_
  refine sG<|Sy.ret<|Sy.then_ret ?_
  exact Sy.retGM2 [] rfl (.inl (show _=_ by kernel_rfl)) (.inl (show _=_ by kernel_rfl)) (λ_ h=>h.none) (.inr ⟨hok,rfl,rfl⟩)
theorem ex_blk {α:Type} {rep:Rdr→List Value→α→Prop} {ok:α→Bool} {enc:α→Byt} {wt:α→Nat} (hm:Mono rep) (hp:PutO 38 104 rep ok enc wt) (w:World) (cs:List Value) (x:α) (hx:rep (rdW w) cs x) (hl:cs.length=104) (hwt:wt x≤70368744170000) :
  Calls Tryz.prog 13 #[.agg cs.toArray] w (GetsN w (BytE (ok x) (enc x))):=by
 refine Sy.enter (args:=[.agg cs.toArray]) Tryz.func13 rfl kL ?_
 refine sC ?_
 refine sM 46 cs.toArray (λgx=>?_) kR (λw=>run_boxR rfl rfl (by kernel_rfl) hl w)
 refine sP (.slice none 0 0)<|sP (.int .i64 0) ?_
 refine sA ?_
 refine sS (.agg cs.toArray) (rowC (R:=[(gx,46,cs.toArray)]) (memX (List.mem_singleton.2 rfl)) (λ_ h=>h) hl rfl Tryz.underlying46) ?_
 refine Sy.callN kR 37 #[.agg cs.toArray,.func (.func 38) #[] #[]] kF (BytE (ok x) (enc x)) (λw' hw=>write_blk (rep:=rep) hm hp w' cs x (hm (λg o u h=>rdC_world (R:=[]) hw (λ_ h=>by cases h) g o u (.inl h)) hx) hl hwt) (λv M hM=>?_)
 have hv:∃ a e:Value,v=.tuple #[a,e]:=by
  rcases hM with ⟨_,u,rfl,_⟩ | ⟨_,rfl,_⟩ <;> exact ⟨_,_,rfl⟩
 obtain ⟨a,e,rfl⟩:=hv
 refine sp rfl<|sp rfl<|sp rfl<|sp rfl ?_
 refine sG<|Sy.ret ?_
 exact Sy.retGM2 M rfl (.inl (show _=_ by kernel_rfl)) (.inl (show _=_ by kernel_rfl)) (λ_ h=>h.less (List.sublist_append_right _ _)) hM
theorem read_blk {α:Type} {rep:Rdr→List Value→α→Prop} {p:Ps α} (hm:Mono rep) (hp:GetC 38 104 ((Z32++([Value.int .u64 0]++([Value.int .u64 0]++(Z32++(Z32++([Value.slice none 0 0]++([Value.bool false]++([Value.int .i64 0]++[Value.slice none 0 0]))))))))++([Value.slice none 0 0]++([Value.slice none 0 0]))) rep p) (w:World) (v:Value) (b:Byt) (hv:BytR (rdW w) v b) (hl:b.length≤70368744177664) :
  Calls Tryz.prog 40 #[v,.func (.func 38) #[] #[]] w (GetsN w (RdE 104 ((Z32++([Value.int .u64 0]++([Value.int .u64 0]++(Z32++(Z32++([Value.slice none 0 0]++([Value.bool false]++([Value.int .i64 0]++[Value.slice none 0 0]))))))))++([Value.slice none 0 0]++([Value.slice none 0 0]))) rep (allP p b))):=by
 refine Sy.enter (args:=[v,.func (.func 38) #[] #[]]) Tryz.func40 rfl kL ?_
 refine sC ?_
 refine sM 46 ((Z32++([Value.int .u64 0]++([Value.int .u64 0]++(Z32++(Z32++([Value.slice none 0 0]++([Value.bool false]++([Value.int .i64 0]++[Value.slice none 0 0]))))))))++([Value.slice none 0 0]++([Value.slice none 0 0]))).toArray (λg4=>?_)
 refine sP (.int .i64 0) ?_
 refine sA ?_
 refine sM 46 ((Z32++([Value.int .u64 0]++([Value.int .u64 0]++(Z32++(Z32++([Value.slice none 0 0]++([Value.bool false]++([Value.int .i64 0]++[Value.slice none 0 0]))))))))++([Value.slice none 0 0]++([Value.slice none 0 0]))).toArray (λg6=>?_)
 refine sM 46 ((Z32++([Value.int .u64 0]++([Value.int .u64 0]++(Z32++(Z32++([Value.slice none 0 0]++([Value.bool false]++([Value.int .i64 0]++[Value.slice none 0 0]))))))))++([Value.slice none 0 0]++([Value.slice none 0 0]))).toArray (λg7=>?_)
 refine sA ?_
 refine sp rfl ?_
 refine Sy.callN kR 67 #[v] kF _ (λw' hw=>read_any w' v b (hv.at hw) hl) (λu M hM=>?_)
 obtain ⟨gr,sl,N0,hN0,rfl,rfl⟩:=hM
 refine sP (.agg #[.pointer none,ptr gr,.bool false])<|sM 134 #[.pointer none,ptr gr,.bool false] (λgc=>?_)
 refine Sy.permS (M:=CRS gc gr g6 46 ([]++(((Z32++([Value.int .u64 0]++([Value.int .u64 0]++(Z32++(Z32++([Value.slice none 0 0]++([Value.bool false]++([Value.int .i64 0]++[Value.slice none 0 0]))))))))++([Value.slice none 0 0]++([Value.slice none 0 0])))++[])) sl 0 ((g4,46,((Z32++([Value.int .u64 0]++([Value.int .u64 0]++(Z32++(Z32++([Value.slice none 0 0]++([Value.bool false]++([Value.int .i64 0]++[Value.slice none 0 0]))))))))++([Value.slice none 0 0]++([Value.slice none 0 0]))).toArray)::(g7,46,((Z32++([Value.int .u64 0]++([Value.int .u64 0]++(Z32++(Z32++([Value.slice none 0 0]++([Value.bool false]++([Value.int .i64 0]++[Value.slice none 0 0]))))))))++([Value.slice none 0 0]++([Value.slice none 0 0]))).toArray)::N0)) (Sy.flat_perm (ls:=[[(g4,46,((Z32++([Value.int .u64 0]++([Value.int .u64 0]++(Z32++(Z32++([Value.slice none 0 0]++([Value.bool false]++([Value.int .i64 0]++[Value.slice none 0 0]))))))))++([Value.slice none 0 0]++([Value.slice none 0 0]))).toArray)],[(g6,46,((Z32++([Value.int .u64 0]++([Value.int .u64 0]++(Z32++(Z32++([Value.slice none 0 0]++([Value.bool false]++([Value.int .i64 0]++[Value.slice none 0 0]))))))))++([Value.slice none 0 0]++([Value.slice none 0 0]))).toArray)],[(g7,46,((Z32++([Value.int .u64 0]++([Value.int .u64 0]++(Z32++(Z32++([Value.slice none 0 0]++([Value.bool false]++([Value.int .i64 0]++[Value.slice none 0 0]))))))))++([Value.slice none 0 0]++([Value.slice none 0 0]))).toArray)],[(gr,253,#[sl,.int .i64 0])],N0,[(gc,134,#[.pointer none,ptr gr,.bool false])]]) (ms:=[[(gc,134,#[.pointer none,ptr gr,.bool false])],[(g6,46,((Z32++([Value.int .u64 0]++([Value.int .u64 0]++(Z32++(Z32++([Value.slice none 0 0]++([Value.bool false]++([Value.int .i64 0]++[Value.slice none 0 0]))))))))++([Value.slice none 0 0]++([Value.slice none 0 0]))).toArray)],[(gr,253,#[sl,.int .i64 0])],[(g4,46,((Z32++([Value.int .u64 0]++([Value.int .u64 0]++(Z32++(Z32++([Value.slice none 0 0]++([Value.bool false]++([Value.int .i64 0]++[Value.slice none 0 0]))))))))++([Value.slice none 0 0]++([Value.slice none 0 0]))).toArray)],[(g7,46,((Z32++([Value.int .u64 0]++([Value.int .u64 0]++(Z32++(Z32++([Value.slice none 0 0]++([Value.bool false]++([Value.int .i64 0]++[Value.slice none 0 0]))))))))++([Value.slice none 0 0]++([Value.slice none 0 0]))).toArray)],N0]) [5,1,3,0,2,4] (by kernel_rfl) (by rfl) (by simp) (by simp)) ?_
 refine sp rfl ?_
 refine sA ?_
 refine sp rfl<|sp rfl ?_
 refine Sy.callT (λw' hw=>hp (Base.of w) gc gr g6 0 46 [] [] sl ⟨b,0⟩ ((g4,46,((Z32++([Value.int .u64 0]++([Value.int .u64 0]++(Z32++(Z32++([Value.slice none 0 0]++([Value.bool false]++([Value.int .i64 0]++[Value.slice none 0 0]))))))))++([Value.slice none 0 0]++([Value.slice none 0 0]))).toArray)::(g7,46,((Z32++([Value.int .u64 0]++([Value.int .u64 0]++(Z32++(Z32++([Value.slice none 0 0]++([Value.bool false]++([Value.int .i64 0]++[Value.slice none 0 0]))))))))++([Value.slice none 0 0]++([Value.slice none 0 0]))).toArray)::N0) N0 (λx h=>List.mem_cons_of_mem _ (List.mem_cons_of_mem _ h)) rfl (Nat.zero_le _) hl (hN0.byt.le rdB_base) w' hw) (λu M hM=>?_)
 obtain ⟨x,s',sl',cs,N,q1,q2,q3,q4,q5,q6,q7,rfl⟩:=hM
 rw [List.append_nil]
 obtain ⟨o1,o2⟩:=all_of q1
 obtain ⟨e,hE⟩:∃ e,e=if s'.e=0∧0<s'.rest.length then 113 else s'.e:=⟨_,rfl⟩
 have hEl:e≤200:=by rw [hE]; split <;> omega
 refine sG<|Sy.seq<|sC ?_
 obtain ⟨b1,hb1⟩:∃ z:Bool,z=decide (e≠0):=⟨_,rfl⟩
 refine sp rfl<|sp rfl<|sP (.pointer (some ⟨gc,1,none⟩))<|sS (ptr gr) (qc 0 1 rfl rfl Tryz.underlying132)<|sS (.int .i64 (e:Int)) (qg (λw' hw=>by rw [hE]; exact end_any (Base.of w) gr sl' s' N0 q5 q7 (List.mem_cons_of_mem _ (List.mem_cons_of_mem _ (List.mem_cons_self ..))) w' hw))<|sS (.bool b1) (Quiet.pure (exec_int .neq _ _ _ .i64 _ _ _ rfl rfl rfl (int_neq _ _ _ _ _ (by rw [hb1]; exact decide_eq_decide.2 (by omega))))) ?_
 refine sG ?_
 cases b1
 ·have l1:e=0:=Decidable.of_not_not (of_decide_eq_false hb1.symm)
  have l2:s'.e=0∧s'.rest=[]:=by
   by_cases h:s'.e=0∧0<s'.rest.length
   ·rw [if_pos h] at hE; omega
   ·rw [if_neg h] at hE
    exact ⟨by omega,List.eq_nil_of_length_eq_zero (by omega)⟩
  refine sU<|Sy.skip<|sB ?_
  refine sS (.agg cs.toArray) (Quiet.mid 1 g6 0 104 46 46 cs cs _ _ rfl kR rfl Tryz.underlying46 rfl kR (by rw [List.drop_zero,List.take_of_length_le (by omega)]) (by omega))<|sw 3 rfl cs.toArray (Writes.row 46 cs 104 _ _ rfl kR kR kR q2 (by kernel_rfl) q3)<|sP (.int .i64 0) ?_
  refine sG<|Sy.ret ?_
  exact Sy.retGM2 N rfl (.inl (Sy.Res.cell (ty':=46) g4 3 cs.toArray _ (by kernel_rfl) rfl Tryz.underlying46 rfl (by rw [List.size_toArray,q2]; kernel_rfl) rfl)) (.inl (show _=_ by kernel_rfl)) (λ_ h=>h.less (List.sublist_append_right [(gc,134,#[.pointer none,ptr gr,.bool false]),(g6,46,cs.toArray),(gr,253,#[sl',.int .i64 (s'.e:Int)]),(g4,46,cs.toArray),(g7,46,((Z32++([Value.int .u64 0]++([Value.int .u64 0]++(Z32++(Z32++([Value.slice none 0 0]++([Value.bool false]++([Value.int .i64 0]++[Value.slice none 0 0]))))))))++([Value.slice none 0 0]++([Value.slice none 0 0]))).toArray)] (N0++N) |> λh1=>(List.sublist_append_right N0 N).trans h1)) (.inl ⟨x,cs,o1 l2.1 l2.2,rfl,q2,q4⟩)
 ·have l1:e≠0:=of_decide_eq_true hb1.symm
  have l2:s'.e≠0∨s'.rest≠[]:=by
   by_cases h:s'.e=0∧0<s'.rest.length
   ·exact .inr (λe=>by rw [e] at h; exact absurd h.2 (by decide))
   ·rw [if_neg h] at hE; exact .inl (by omega)
  refine sT<|sC ?_
  refine sS (.agg ((Z32++([Value.int .u64 0]++([Value.int .u64 0]++(Z32++(Z32++([Value.slice none 0 0]++([Value.bool false]++([Value.int .i64 0]++[Value.slice none 0 0]))))))))++([Value.slice none 0 0]++([Value.slice none 0 0]))).toArray) (qk 4 0 104 rfl rfl Tryz.underlying46)<|sw 3 rfl ((Z32++([Value.int .u64 0]++([Value.int .u64 0]++(Z32++(Z32++([Value.slice none 0 0]++([Value.bool false]++([Value.int .i64 0]++[Value.slice none 0 0]))))))))++([Value.slice none 0 0]++([Value.slice none 0 0]))).toArray (wA rfl)<|sP (.int .i64 120) ?_
  refine sG<|Sy.ret<|Sy.then_ret ?_
  exact Sy.retGM2 [] rfl (.inl (Sy.Res.cell (ty':=46) g4 3 ((Z32++([Value.int .u64 0]++([Value.int .u64 0]++(Z32++(Z32++([Value.slice none 0 0]++([Value.bool false]++([Value.int .i64 0]++[Value.slice none 0 0]))))))))++([Value.slice none 0 0]++([Value.slice none 0 0]))).toArray _ (by kernel_rfl) rfl Tryz.underlying46 rfl (by kernel_rfl) rfl)) (.inl (show _=_ by kernel_rfl)) (λ_ h=>h.none) (.inr ⟨o2 l2,rfl,rfl⟩)
theorem rdx_blk {α:Type} {rep:Rdr→List Value→α→Prop} {p:Ps α} (hm:Mono rep) (hone:∀ {C:Rdr} {cs:List Value} {x:α},rep C cs x→∀ u∈cs,u.oneCell'=true) (hp:GetC 38 104 ((Z32++([Value.int .u64 0]++([Value.int .u64 0]++(Z32++(Z32++([Value.slice none 0 0]++([Value.bool false]++([Value.int .i64 0]++[Value.slice none 0 0]))))))))++([Value.slice none 0 0]++([Value.slice none 0 0]))) rep p) (w:World) (v:Value) (b:Byt) (hv:BytR (rdW w) v b) (hl:b.length≤70368744177664) :
  Calls Tryz.prog 15 #[v] w (GetsN w (RdE 104 ((Z32++([Value.int .u64 0]++([Value.int .u64 0]++(Z32++(Z32++([Value.slice none 0 0]++([Value.bool false]++([Value.int .i64 0]++[Value.slice none 0 0]))))))))++([Value.slice none 0 0]++([Value.slice none 0 0]))) rep (allP p b))):=by
 refine Sy.enter (args:=[v]) Tryz.func15 rfl kL ?_
 refine sC ?_
 refine sM 46 ((Z32++([Value.int .u64 0]++([Value.int .u64 0]++(Z32++(Z32++([Value.slice none 0 0]++([Value.bool false]++([Value.int .i64 0]++[Value.slice none 0 0]))))))))++([Value.slice none 0 0]++([Value.slice none 0 0]))).toArray (λg2=>?_)
 refine sP (.int .i64 0) ?_
 refine sA ?_
 refine sp rfl ?_
 refine Sy.callN kR 40 #[v,.func (.func 38) #[] #[]] kF _ (λw' hw=>read_blk (rep:=rep) (p:=p) hm hp w' v b (hv.at hw) hl) (λu M hM=>?_)
 rcases hM with ⟨x,cs,o1,rfl,q2,q4⟩ | ⟨o1,rfl,rfl⟩
 ·have q3:∀ u∈cs,u.oneCell'=true:=hone q4
  refine sp rfl<|sp rfl<|sw 0 rfl cs.toArray (Writes.row 46 cs 104 _ _ rfl kR kR kR q2 (by kernel_rfl) q3)<|sp rfl ?_
  refine sG<|Sy.ret ?_
  exact Sy.retGM2 M rfl (.inl (Sy.Res.cell (ty':=46) g2 0 cs.toArray _ (by kernel_rfl) rfl Tryz.underlying46 rfl (by rw [List.size_toArray,q2]; kernel_rfl) rfl)) (.inl (show _=_ by kernel_rfl)) (λ_ h=>h.less (List.sublist_cons_self _ _)) (.inl ⟨x,cs,o1,rfl,q2,q4⟩)
 ·refine sp rfl<|sp rfl<|sw 0 rfl ((Z32++([Value.int .u64 0]++([Value.int .u64 0]++(Z32++(Z32++([Value.slice none 0 0]++([Value.bool false]++([Value.int .i64 0]++[Value.slice none 0 0]))))))))++([Value.slice none 0 0]++([Value.slice none 0 0]))).toArray (wA rfl)<|sp rfl ?_
  refine sG<|Sy.ret ?_
  exact Sy.retGM2 [] rfl (.inl (Sy.Res.cell (ty':=46) g2 0 ((Z32++([Value.int .u64 0]++([Value.int .u64 0]++(Z32++(Z32++([Value.slice none 0 0]++([Value.bool false]++([Value.int .i64 0]++[Value.slice none 0 0]))))))))++([Value.slice none 0 0]++([Value.slice none 0 0]))).toArray _ (by kernel_rfl) rfl Tryz.underlying46 rfl (by kernel_rfl) rfl)) (.inl (show _=_ by kernel_rfl)) (λ_ h=>h.none) (.inr ⟨o1,rfl,rfl⟩)
end Wr
end
section
namespace Wr
open Go.RowKit Sy
set_option maxRecDepth 100000
set_option maxHeartbeats 4000000
def szPU (o:MOu):Nat:=o.range.length+o.surject.length+o.note.length+o.script.length
def szIS (i:MIs):Nat:=i.range.length
def szPG (p:MPg):Nat:=p.tx.length+(p.path.length+p.script.length)
def szIN (i:MIn):Nat:=szIS i.issue+(szPG i.peg+(i.wit.length+(i.wit.map λx=>x.length).sum))
def szTR (t:MTr):Nat:=(t.ins.length+(t.ins.map szIN).sum)+(t.outs.length+(t.outs.map szPU).sum)
def szBL (b:MBl):Nat:=(b.header.reward.length+b.header.next.keys.length)+(b.sigs.length+(b.txs.length+(b.txs.map szTR).sum))
theorem sum_0 {α:Type} (l:List α):(l.map λ_=>0).sum=0:=by induction l with | nil=>rfl | cons a l ih=>rw [List.map_cons,List.sum_cons,ih]
theorem opn_sc:Opn 143 4 repSC (λ_=>0):=⟨λ{H enc W fuel cs x} hl hf=>by
 match cs,hl with
 | [c0,c1,c2,c3],_ =>
  obtain ⟨n,h1,h2⟩:=Cu.words_trod Tryz.underlying143 Tryz.underlying22 (by kernel_rfl) hf
  refine ⟨n,⟨h2,h1⟩,λu hu=>?_,bulk_pos _⟩
  rw [h2] at hu
  simp only [Cu.fws,List.mem_cons,List.not_mem_nil,or_false] at hu
  rcases hu with rfl | rfl | rfl | rfl <;> rfl⟩
theorem opn_u32:Opn 140 1 repW (λ_=>0):=opn_w Tryz.underlying140
theorem opn_ots:Opn 63 58 repOU szPU:=opn_out.as λC cs o h=>⟨o,h,Nat.le_refl _⟩
theorem opn_opt:Opn 142 33 repOP (λ_=>0):=(opn_s2 Tryz.underlying142 (by kernel_rfl) (by kernel_rfl) (by kernel_rfl) (by kernel_rfl) opn_dg opn_u32).as λC cs (a,b) ⟨a0,a1,e,⟨e0,h1⟩,⟨e1,h2⟩⟩=>by
 dsimp only at e0 e1 h1 h2
 subst e0 e1 e
 exact ⟨(a,b),⟨rfl,h1,h2⟩,Nat.zero_le _⟩
theorem opn_iss:Opn 145 50 repIS szIS:=(opn_s6 Tryz.underlying145 (by kernel_rfl) (by kernel_rfl) (by kernel_rfl) (by kernel_rfl) (by kernel_rfl) (by kernel_rfl) (by kernel_rfl) (by kernel_rfl) (by kernel_rfl) (by kernel_rfl) (by kernel_rfl) (by kernel_rfl) (opn_i Tryz.underlying3) opn_amt opn_raw opn_u64 opn_dg opn_sc).as λC cs (k,a,r,t,n,s) ⟨a0,a1,a2,a3,a4,a5,ec,e0,⟨e1,h1⟩,⟨v2,e2,h2⟩,⟨e3,h3⟩,⟨e4,h4⟩,⟨e5,h5⟩⟩=>by
 obtain rfl:a0=[.int .i64 k]:=e0
 dsimp only at e1 e2 e3 e4 e5 h1 h2 h3 h4 h5
 subst e1 e2 e3 e4 e5 ec
 exact ⟨⟨k,a,r,t,n,s⟩,⟨v2,rfl,h1,h2,h3,h4,h5⟩,by show r.length≤0+0+r.length+0+0+0; omega⟩
theorem opn_peg:Opn 148 37 repPG szPG:=(opn_s6 Tryz.underlying148 (by kernel_rfl) (by kernel_rfl) (by kernel_rfl) (by kernel_rfl) (by kernel_rfl) (by kernel_rfl) (by kernel_rfl) (by kernel_rfl) (by kernel_rfl) (by kernel_rfl) (by kernel_rfl) (by kernel_rfl) opn_dg opn_raw opn_u32 opn_u32 (opn_l Tryz.underlying146 (by kernel_rfl) (by decide) opn_dg) opn_raw).as λC cs (h,t,p,m,l,s) ⟨a0,a1,a2,a3,a4,a5,ec,⟨e0,h0⟩,⟨v1,e1,h1⟩,⟨e2,h2⟩,⟨e3,h3⟩,⟨v4,e4,h4⟩,⟨v5,e5,h5⟩⟩=>by
 dsimp only at e0 e1 e2 e3 e4 e5 h0 h1 h2 h3 h4 h5
 subst e0 e1 e2 e3 e4 e5 ec
 exact ⟨⟨h,t,p,m,l,s⟩,⟨v1,v4,v5,rfl,h0,h1,h2,h3,h4,h5⟩,by show t.length+(l.length+s.length)≤0+t.length+0+0+(l.length+(l.map λ_=>0).sum)+s.length; rw [sum_0]; omega⟩
theorem opn_inp:Opn 151 122 repIN szIN:=(opn_s5 Tryz.underlying151 (by kernel_rfl) (by kernel_rfl) (by kernel_rfl) (by kernel_rfl) (by kernel_rfl) (by kernel_rfl) (by kernel_rfl) (by kernel_rfl) (by kernel_rfl) (by kernel_rfl) (opn_i Tryz.underlying3) opn_opt opn_iss opn_peg (opn_l Tryz.underlying149 (by kernel_rfl) (by decide) opn_raw)).as λC cs (k,o,i,g,w) ⟨a0,a1,a2,a3,a4,ec,e0,⟨e1,h1,h1'⟩,h2,h3,⟨v4,e4,h4⟩⟩=>by
 obtain rfl:a0=[.int .i64 k]:=e0
 dsimp only at e1 e4 h1 h1' h2 h3 h4
 subst e1 e4 ec
 exact ⟨⟨k,o.1,o.2,i,g,w⟩,⟨a2,a3,v4,rfl,h1,h1',h2,h3,h4⟩,by show szIS i+(szPG g+(w.length+(w.map λx=>x.length).sum))≤0+0+szIS i+szPG g+(w.length+(w.map λx=>x.length).sum); omega⟩
theorem opn_txx:Opn 26 3 repTR szTR:=(opn_s3 Tryz.underlying26 (by kernel_rfl) (by kernel_rfl) (by kernel_rfl) (by kernel_rfl) (by kernel_rfl) (by kernel_rfl) opn_u64 (opn_l Tryz.underlying23 (by kernel_rfl) (by decide) opn_inp) (opn_l Tryz.underlying24 (by kernel_rfl) (by decide) opn_ots)).as λC cs (a,i,o) ⟨a0,a1,a2,ec,⟨e0,h0⟩,⟨v1,e1,h1⟩,⟨v2,e2,h2⟩⟩=>by
 dsimp only at e0 e1 e2 h0 h1 h2
 subst e0 e1 e2 ec
 exact ⟨⟨a,i,o⟩,⟨v1,v2,rfl,h0,h1,h2⟩,by show (i.length+(i.map szIN).sum)+(o.length+(o.map szPU).sum)≤0+(i.length+(i.map szIN).sum)+(o.length+(o.map szPU).sum); omega⟩
theorem opn_s64:Opn 180 64 (repN 64) (λ_=>0):=opn_n Tryz.underlying180 Tryz.underlying5 (by kernel_rfl) (by kernel_rfl)
theorem opn_sgd:Opn 182 65 repSG (λ_=>0):=(opn_s2 Tryz.underlying182 (by kernel_rfl) (by kernel_rfl) (by kernel_rfl) (by kernel_rfl) (opn_i Tryz.underlying3) opn_s64).as λC cs (k,s) ⟨a0,a1,e,e0,⟨e1,h1⟩⟩=>by
 obtain rfl:a0=[.int .i64 k]:=e0
 dsimp only at e1 h1
 subst e1 e
 exact ⟨⟨k,s⟩,⟨rfl,h1⟩,Nat.zero_le _⟩
theorem opn_blk:Opn 46 104 repBL szBL:=(opn_s3 Tryz.underlying46 (by kernel_rfl) (by kernel_rfl) (by kernel_rfl) (by kernel_rfl) (by kernel_rfl) (by kernel_rfl) opn_hdr (opn_l Tryz.underlying43 (by kernel_rfl) (by decide) opn_sgd) (opn_l Tryz.underlying44 (by kernel_rfl) (by decide) opn_txx)).as λC cs (h,s,t) ⟨a0,a1,a2,ec,h0,⟨v1,e1,h1⟩,⟨v2,e2,h2⟩⟩=>by
 dsimp only at e1 e2 h0 h1 h2
 subst e1 e2 ec
 exact ⟨⟨h,s,t⟩,⟨a0,v1,v2,rfl,h0,h1,h2⟩,by show (h.reward.length+h.next.keys.length)+(s.length+(t.length+(t.map szTR).sum))≤(h.reward.length+h.next.keys.length)+(s.length+(s.map λ_=>0).sum)+(t.length+(t.map szTR).sum); rw [sum_0]; omega⟩
end Wr
end
section
namespace Wr
open Go.RowKit Sy
set_option maxRecDepth 100000
set_option maxHeartbeats 4000000
theorem sum_32' (l:List Byt):(l.map λ_=>32).sum=32*l.length:=by
 induction l with
 | nil=>rfl
 | cons o l ih=>rw [List.map_cons,List.sum_cons,ih,List.length_cons]; omega
def zoHE:MHe:=⟨z32,0,0,z32,z32,[],false,⟨0,[]⟩⟩
def zoTR:MTr:=⟨0,[],[]⟩
def zoBL:MBl:=⟨zoHE,[],[]⟩
theorem lst_nil {α:Type} (C:Rdr) (k:Nat) (rep:Rdr→List Value→α→Prop):LstR C k rep (.slice none 0 0) []:=⟨none,0,0,rfl,rfl,Nat.le_refl _,Nat.zero_le _,λh=>(h rfl).elim⟩
theorem zo64:(0:Nat)<18446744073709551616:=by decide
theorem zoHE_rep (C:Rdr):repHE C (Z32++([Value.int .u64 0]++([Value.int .u64 0]++(Z32++(Z32++([Value.slice none 0 0]++([Value.bool false]++([Value.int .i64 0]++[Value.slice none 0 0])))))))) zoHE:=⟨_,_,rfl,rfl,rfl,rfl,zo64,zo64,BytR.nil _,lst_nil _ _ _⟩
theorem zoTR_rep (C:Rdr):repTR C ([Value.int .u64 0]++([Value.slice none 0 0]++([Value.slice none 0 0]))) zoTR:=⟨_,_,rfl,zo64,lst_nil _ _ _,lst_nil _ _ _⟩
theorem zoBL_rep (C:Rdr):repBL C ((Z32++([Value.int .u64 0]++([Value.int .u64 0]++(Z32++(Z32++([Value.slice none 0 0]++([Value.bool false]++([Value.int .i64 0]++[Value.slice none 0 0]))))))))++([Value.slice none 0 0]++([Value.slice none 0 0]))) zoBL:=⟨_,_,_,rfl,zoHE_rep C,lst_nil _ _ _,lst_nil _ _ _⟩
end Wr
end
section
namespace Wr
open Go.RowKit Sy
set_option maxRecDepth 100000
set_option maxHeartbeats 4000000
theorem bindI {α β:Type} {p:Ps α} {q:α→Ps β} {l r:Byt} {x:β} (h:bindP p q l=some (x,r)):∃ y r1,p l=some (y,r1)∧q y r1=some (x,r):=by
  cases hp:p l with
  | none=>rw [bind_none hp] at h; cases h
  | some u=>obtain ⟨y,r1⟩:=u; rw [bind_some hp] at h; exact ⟨y,r1,rfl,h⟩
theorem mustI {b:Bool} {l r:Byt} {u:Unit} (h:mustP b l=some (u,r)):b=true∧l=r:=by
  unfold mustP at h
  cases b
  · cases h
  · cases h; exact ⟨rfl,rfl⟩
theorem mustF {α:Type} {b:Bool} (hb:b=true) (q:Unit→Ps α) (l:Byt):bindP (mustP b) q l=q () l:=by subst hb; rfl
structure Fits {α:Type} (p:Ps α) (ok:α→Bool) (enc:α→Byt) (dom:α→Prop):Prop where
  inv:∀ {l r:Byt} {x:α},p l=some (x,r)→(ok x=true∧dom x)∧l=enc x++r
  fwd:∀ {x:α} (r:Byt),ok x=true→dom x→p (enc x++r)=some (x,r)
theorem Fits.only {α : Type} {p : Ps α} {ok : α → Bool} {enc : α → Byt} {dom : α → Prop} (h : Fits p ok enc dom) {l : Byt} {x : α} (hp : allP p l = some x) : (ok x = true ∧ dom x) ∧ enc x = l := by
  unfold allP at hp
  cases e:p l with
  | none=>rw [e] at hp; cases hp
  | some u =>
    obtain ⟨y,r⟩:=u
    rw [e] at hp
    cases r with
    | nil =>
      cases hp
      obtain ⟨h1,h2⟩:=h.inv e
      exact ⟨h1,by rw [h2,List.append_nil]⟩
    | cons=>cases hp
theorem Fits.more {α:Type} {p:Ps α} {ok:α→Bool} {enc:α→Byt} {dom:α→Prop} (h:Fits p ok enc dom) {x:α} (h1:ok x=true) (h2:dom x) (c:UInt8) (t:Byt):allP p (enc x++c::t)=none:=by
  unfold allP
  rw [h.fwd _ h1 h2]
theorem Fits.cut {α : Type} {p : Ps α} {ok : α → Bool} {enc : α → Byt} {dom : α → Prop} (h : Fits p ok enc dom) {x : α} (h1 : ok x = true) (h2 : dom x) {n : Nat} (hn : n < (enc x).length) : allP p ((enc x).take n) = none := by
  cases e:allP p ((enc x).take n) with
  | none=>rfl
  | some y =>
    obtain ⟨⟨y1,y2⟩,y3⟩:=h.only e
    have a:=h.fwd ((enc x).drop n) y1 y2
    rw [y3,List.take_append_drop] at a
    have b:=h.fwd [] h1 h2
    rw [List.append_nil,a] at b
    have c:(enc x).drop n=[]:=by injection b with b; injection b
    have d:=congrArg List.length c
    rw [List.length_drop,List.length_nil] at d
    omega
theorem fitTake (n:Nat):Fits (takeP n) (λ_=>true) (λx=>x) (λx=>x.length=n):=by
  refine ⟨λh=>⟨⟨rfl,(take_len h).1⟩,(take_len h).2⟩,λ{x} r _ hx=>?_⟩
  show takeP n (x++r)=some (x,r)
  unfold takeP
  subst hx
  rw [if_pos (by rw [List.length_append]; omega),List.take_left,List.drop_left]
theorem fitNum (k : Nat) : Fits (numP k) (fun _ => true) (nb k) (fun n => n < 256 ^ k) := by
  refine ⟨λ{l r n} h=>?_,λ{n} r _ hn=>?_⟩
  · have hlt:=num_lt h
    obtain ⟨b,r1,h1,h2⟩:=bindI h
    cases h2
    obtain ⟨e1,rfl⟩:=take_len h1
    refine ⟨⟨rfl,hlt⟩,?_⟩
    rw [← e1,nb_said]
  · unfold numP
    rw [bind_some ((fitTake k).fwd r rfl (nb_len k n)),said_nb k n hn]
    rfl
theorem fitOct : Fits octP okO (fun z => [octB z]) (fun _ => True) := by
  refine ⟨λ{l r z} h=>?_,λ{z} r hz _=>?_⟩
  · obtain ⟨n, r1, h1, h2⟩ := bindI h
    cases h2
    obtain ⟨⟨_,h3⟩,rfl⟩:=(fitNum 1).inv h1
    have h3:n<256:=h3
    refine ⟨⟨?_,trivial⟩,?_⟩
    · unfold okO
      rw [decide_eq_true (show (0:Int)≤n by omega),decide_eq_true (show (n:Int)≤255 by omega)]; rfl
    · have e:((n:Int)%256).toNat=n:=by omega
      unfold octB
      rw [e]
      show UInt8.ofNat (n / 256 ^ 0)::[]++r=_
      rw [Nat.pow_zero,Nat.div_one]
  · unfold okO at hz
    rw [Bool.and_eq_true,decide_eq_true_eq,decide_eq_true_eq] at hz
    have e:[octB z]=nb 1 z.toNat:=by
      unfold octB
      rw [show (z%256).toNat=z.toNat by omega]
      show _=[UInt8.ofNat (z.toNat / 256 ^ 0)]
      rw [Nat.pow_zero,Nat.div_one]
    unfold octP
    rw [e,bind_some ((fitNum 1).fwd r rfl (show z.toNat<256 by omega))]
    show some (((z.toNat:Nat):Int),r)=some (z,r)
    rw [Int.toNat_of_nonneg hz.1]
theorem fitVar (most : Nat) : Fits (varP most) (fun n => decide (n ≤ most)) varB (fun n => n < 18446744073709551616) := by
  have one:∀ (c:Nat) (r:Byt),c<256→numP 1 (UInt8.ofNat c::r)=some (c,r):=λc r hc=>by
    have e:UInt8.ofNat c::r=nb 1 c++r:=by show _=UInt8.ofNat (c / 256 ^ 0)::([]++r); rw [Nat.pow_zero,Nat.div_one,List.nil_append]
    rw [e]; exact (fitNum 1).fwd r rfl hc
  refine ⟨λ{l r n} h=>?_,λ{n} r hn hd=>?_⟩
  · obtain ⟨m, r1, h1, h2⟩ := bindI h
    obtain ⟨_,r2,h3,h4⟩:=bindI h2
    obtain ⟨hm,rfl⟩:=mustI h3
    cases h4
    refine ⟨⟨hm,?_⟩,?_⟩ <;> obtain ⟨c,r3,h5,h6⟩:=bindI h1 <;> obtain ⟨⟨_,h7⟩,rfl⟩:=(fitNum 1).inv h5 <;> have h7:c<256:=h7
    all_goals by_cases hc:c<253
    · rw [if_pos hc] at h6; cases h6; omega
    · rw [if_neg hc] at h6
      obtain ⟨k,r4,h8,h9⟩:=bindI h6
      obtain ⟨_,r5,h10,h11⟩:=bindI h9
      obtain ⟨hk,rfl⟩:=mustI h10
      cases h11
      have h12:=num_lt h8
      have hw : wide c ≤ 8 := by unfold wide; repeat' split
                                 all_goals omega
      exact Nat.lt_of_lt_of_le h12 (Nat.pow_le_pow_right (by decide) hw)
    · rw [if_pos hc] at h6; cases h6
      unfold varB
      rw [if_pos hc]
      show UInt8.ofNat (_ / 256 ^ 0)::[]++_=_
      rw [Nat.pow_zero,Nat.div_one]
    · rw [if_neg hc] at h6
      obtain ⟨k,r4,h8,h9⟩:=bindI h6
      obtain ⟨_,r5,h10,h11⟩:=bindI h9
      obtain ⟨hk,rfl⟩:=mustI h10
      cases h11
      obtain ⟨⟨_,h12⟩,rfl⟩:=(fitNum (wide c)).inv h8
      have hk:=of_decide_eq_true hk
      have h13:c=253∨c=254∨c=255:=by omega
      have e0:nb 1 c=[UInt8.ofNat c]:=by show UInt8.ofNat (c / 256 ^ 0)::[]=_; rw [Nat.pow_zero,Nat.div_one]
      rw [e0]
      unfold varB
      rcases h13 with rfl | rfl | rfl
      · have h12:_<65536:=h12
        have hk:253≤_:=hk
        rw [if_neg (by omega),if_pos h12]; rfl
      · have h12:_<4294967296:=h12
        have hk:65536≤_:=hk
        rw [if_neg (by omega),if_neg (by omega),if_pos h12]; rfl
      · have hk:4294967296≤_:=hk
        rw [if_neg (by omega),if_neg (by omega),if_neg (by omega)]; rfl
  · have lng : ∀ (c : Nat), c < 256 → 253 ≤ c → n < 256 ^ wide c → least c ≤ n → bindP (bindP (numP 1) fun c => if c < 253 then retP c else longP c) (fun n => bindP (mustP (decide (n ≤ most))) fun _ => retP n) (UInt8.ofNat c :: (nb (wide c) n ++ r)) = some (n, r) := fun c h1 h2 h3 h4 => by
      have e:bindP (numP 1) (λc=>if c<253 then retP c else longP c) (UInt8.ofNat c::(nb (wide c) n++r))=some (n,r):=by
        rw [bind_some (one c _ h1),if_neg (by omega)]
        unfold longP
        rw [bind_some ((fitNum (wide c)).fwd r rfl h3),mustF (decide_eq_true h4)]
        rfl
      rw [bind_some e,mustF hn]
      rfl
    unfold varP varB
    by_cases a1:n<253
    · rw [if_pos a1]
      have e:bindP (numP 1) (λc=>if c<253 then retP c else longP c) ([UInt8.ofNat n]++r)=some (n,r):=by
        show bindP _ _ (UInt8.ofNat n::r)=_
        rw [bind_some (one n r (by omega)),if_pos a1]
        rfl
      rw [bind_some e,mustF hn]
      rfl
    · rw [if_neg a1]
      by_cases a2:n<65536
      · rw [if_pos a2]; exact lng 253 (by decide) (by decide) a2 (show 253≤n by omega)
      · rw [if_neg a2]
        by_cases a3:n<4294967296
        · rw [if_pos a3]; exact lng 254 (by decide) (by decide) a3 (show 65536≤n by omega)
        · rw [if_neg a3]; exact lng 255 (by decide) (by decide) hd (show 4294967296≤n by omega)
theorem fitText (most : Nat) : Fits (textP most) (fun x => decide (x.length ≤ most)) encT (fun x => x.length < 18446744073709551616) := by
  refine ⟨λ{l r x} h=>?_,λ{x} r hx hd=>?_⟩
  · obtain ⟨n,r1,h1,h2⟩:=bindI h
    obtain ⟨⟨h3,h4⟩,rfl⟩:=(fitVar most).inv h1
    obtain ⟨⟨_,h5⟩,rfl⟩:=(fitTake n).inv h2
    subst h5
    exact ⟨⟨h3,h4⟩,by unfold encT; rw [List.append_assoc]⟩
  · unfold encT textP
    rw [List.append_assoc,bind_some ((fitVar most).fwd _ hx hd),(fitTake x.length).fwd r rfl rfl]
theorem fitRep {α : Type} {p : Ps α} {ok : α → Bool} {enc : α → Byt} {dom : α → Prop} (hp : Fits p ok enc dom) : ∀ (n : Nat), Fits (repP p n) (fun l => l.all ok) (fun l => l.flatMap enc) (fun l => l.length = n ∧ ∀ x ∈ l, dom x)
  | 0 => ⟨fun {l r x} h => by cases h; exact ⟨⟨rfl, rfl, fun _ hx => by cases hx⟩, rfl⟩, fun {x} r _ hx => by
      obtain rfl:x=[]:=List.length_eq_zero_iff.1 hx.1
      rfl⟩
  | n + 1 => by
    have ih:=fitRep hp n
    refine ⟨λ{l r x} h=>?_,λ{x} r hx hd=>?_⟩
    · obtain ⟨y, r1, h1, h2⟩ := bindI (p := p) h
      obtain ⟨ys,r2,h3,h4⟩:=bindI (p:=repP p n) h2
      cases h4
      obtain ⟨⟨a1,a2⟩,rfl⟩:=hp.inv h1
      obtain ⟨⟨b1,b2,b3⟩,rfl⟩:=ih.inv h3
      refine ⟨⟨?_,by rw [List.length_cons,b2],λz hz=>?_⟩,by rw [List.flatMap_cons,List.append_assoc]⟩
      · rw [List.all_cons,a1,b1]; rfl
      · rcases List.mem_cons.1 hz with rfl | hz
        · exact a2
        · exact b3 z hz
    · cases x with
      | nil=>cases hd.1
      | cons y ys =>
        rw [List.all_cons,Bool.and_eq_true] at hx
        show bindP p (λx=>bindP (repP p n) λl=>retP (x::l)) _=_
        rw [List.flatMap_cons,List.append_assoc,bind_some (hp.fwd _ hx.1 (hd.2 y (List.mem_cons_self ..))),bind_some (ih.fwd r hx.2 ⟨by have:=hd.1; rw [List.length_cons] at this; omega,λz hz=>hd.2 z (List.mem_cons_of_mem _ hz)⟩)]
        rfl
theorem fitList {α : Type} {p : Ps α} {ok : α → Bool} {enc : α → Byt} {dom : α → Prop} (hp : Fits p ok enc dom) (most : Nat) : Fits (listP most p) (fun l => decide (l.length ≤ most) && l.all ok) (encL enc) (fun l => l.length < 18446744073709551616 ∧ ∀ x ∈ l, dom x) := by
  refine ⟨λ{l r x} h=>?_,λ{x} r hx hd=>?_⟩
  · obtain ⟨n,r1,h1,h2⟩:=bindI h
    obtain ⟨⟨h3,h4⟩,rfl⟩:=(fitVar most).inv h1
    obtain ⟨⟨h5,h6,h7⟩,rfl⟩:=(fitRep hp n).inv h2
    subst h6
    exact ⟨⟨by rw [h3,h5]; rfl,h4,h7⟩,by unfold encL; rw [List.append_assoc]⟩
  · rw [Bool.and_eq_true] at hx
    unfold encL listP
    rw [List.append_assoc,bind_some ((fitVar most).fwd _ hx.1 hd.1),(fitRep hp x.length).fwd r hx.2 ⟨rfl,hd.2⟩]
theorem fitTru : Fits truP (fun _ => true) (fun b => [trB b]) (fun _ => True) := by
  refine ⟨λ{l r x} h=>?_,λ{x} r _ _=>?_⟩
  · obtain ⟨z,r1,h1,h2⟩:=bindI h
    obtain ⟨_,r2,h3,h4⟩:=bindI h2
    obtain ⟨hz,rfl⟩:=mustI h3
    cases h4
    obtain ⟨⟨ho,_⟩,rfl⟩:=fitOct.inv h1
    refine ⟨⟨rfl,trivial⟩,?_⟩
    have hz:=of_decide_eq_true hz
    unfold okO at ho
    rw [Bool.and_eq_true,decide_eq_true_eq,decide_eq_true_eq] at ho
    have:z=0∨z=1:=by omega
    rcases this with rfl | rfl <;> rfl
  · unfold truP trB
    rw [bind_some (fitOct.fwd r (by cases x <;> rfl) trivial)]
    cases x <;> rfl
theorem dec_mPt {P : Cu.Pt} (h : Ec.On P) : Cu.dec (mPt P).x (mPt P).y (mPt P).i = P := by
  cases P with
  | none=>rfl
  | some p =>
    obtain ⟨x,y⟩:=p
    have hon:y.val*y.val%pM=(x.val*x.val%pM*x.val%pM+7)%pM:=congrArg Fin.val h
    unfold Cu.dec
    exact dif_pos (⟨rfl,x.isLt,y.isLt,hon⟩:false=false∧x.val<pM∧y.val<pM∧_)
theorem ok_dec {p : MPt} (h : okPT p = true) : ∃ P, p = mPt P ∧ Ec.On P := by
  obtain ⟨x,y,i⟩:=p
  unfold okPT at h
  rw [Bool.and_eq_true] at h
  obtain ⟨h1,h2⟩:=h
  cases i with
  | true=>cases h2
  | false =>
    unfold Cu.rightB at h1
    rw [if_neg (show ¬ (false=true) by decide)] at h1
    simp only [Bool.and_eq_true,decide_eq_true_eq] at h1
    obtain ⟨⟨hx,hy⟩,he⟩:=h1
    exact ⟨some (⟨x,hx⟩,⟨y,hy⟩),rfl,Fin.ext he⟩
theorem fitPt : Fits ptP okPT encPT (fun p => p.x < Cu.K4 ∧ p.y < Cu.K4) := by
  refine ⟨λ{l r x} h=>?_,λ{x} r hx hd=>?_⟩
  · obtain ⟨b, r1, h1, h2⟩ := bindI h
    obtain ⟨_,r2,h3,h4⟩:=bindI h2
    obtain ⟨hz,rfl⟩:=mustI h3
    cases h4
    obtain ⟨⟨_,h5⟩,rfl⟩:=(fitTake 33).inv h1
    refine ⟨⟨by rw [okPT_dec]; exact hz,mPt_lt _⟩,?_⟩
    congr 1
    have hb : Cu.decOk b = true := by
      cases hd:Cu.decOk b with
      | true=>rfl
      | false =>
        have e:Cu.decP b=none:=by unfold Cu.decP; rw [if_neg (by rw [hd]; decide)]
        rw [e] at hz
        cases hz
    obtain ⟨_,h6,_⟩:=Cu.decP_ok hb
    unfold encPT
    rw [dec_mPt (Cu.decP_on b),h6]
  · obtain ⟨P, hP, hon⟩ := ok_dec hx
    have e:Cu.dec x.x x.y x.i=P:=by rw [hP]; exact dec_mPt hon
    obtain ⟨d1,d2⟩:=Cu.dec_enc hon
    unfold ptP encPT
    rw [e,bind_some ((fitTake 33).fwd r rfl (Cu.encS_length P)),d2, ← hP,mustF (by
      have h:=hx
      unfold okPT at h
      rw [Bool.and_eq_true] at h
      exact h.2)]
    rfl
end Wr
end
section
namespace Wr
open Go.RowKit Sy
set_option maxRecDepth 100000
set_option maxHeartbeats 4000000
theorem fitSC:Fits rdSC okSC encSC (λn=>n<Cu.K4):=by
 refine ⟨λ{l r x} h=>?_,λ{x} r hx hd=>?_⟩
 ·obtain ⟨b,r1,h1,u1⟩:=bindI h
  obtain ⟨_,r2,h2,u2⟩:=bindI u1
  obtain ⟨hz,rfl⟩:=mustI h2
  cases u2
  obtain ⟨⟨_,h5⟩,rfl⟩:=(fitTake 32).inv h1
  have e:Sc.readS b=(valB b,true)∧valB b<Sc.pM:=by
   unfold Sc.readS at hz ⊢
   by_cases hv:valB b<Sc.pM
   ·rw [if_pos hv]; exact ⟨rfl,hv⟩
   ·rw [if_neg hv] at hz; cases hz
  rw [e.1]
  have em:valB b%Sc.pM=valB b:=Nat.mod_eq_of_lt e.2
  refine ⟨⟨by unfold okSC; exact decide_eq_true em,valB_lt32 b h5⟩,?_⟩
  unfold encSC
  rw [em,bytesS_valB b h5]
 ·have em:=of_decide_eq_true hx
  have hlt:x<Sc.pM:=by rw [← em]; exact Nat.mod_lt _ (by decide)
  have hv:valB (bytesS x)=x:=valB_bytesS x hd
  unfold rdSC encSC
  rw [em,bind_some ((fitTake 32).fwd r rfl (bytesS_length x))]
  have e:Sc.readS (bytesS x)=(x,true):=by unfold Sc.readS; rw [hv,if_pos hlt]
  rw [e]
  rfl
theorem nul_pt {p:MPt} (hd:p.x<Cu.K4∧p.y<Cu.K4) (h:nulPT p=true):p=⟨0,0,false⟩:=by
 obtain ⟨x,y,i⟩:=p
 unfold nulPT Cu.sameB at h
 simp only [Bool.and_eq_true,decide_eq_true_eq,beq_iff_eq] at h
 obtain ⟨rfl,rfl,rfl⟩:=h
 rfl
def domTG (t:MTag):Prop:=t.id.length=32∧t.pt.x<Cu.K4∧t.pt.y<Cu.K4
theorem fitTG:Fits rdTG okTG encTG domTG:=by
 refine ⟨λ{l r x} h=>?_,λ{x} r hx hd=>?_⟩
 ·obtain ⟨b,r1,h1,u3⟩:=bindI h
  obtain ⟨_,rfl⟩:=fitTru.inv h1
  cases b
  ·rw [if_neg (by decide)] at u3
   obtain ⟨d,r2,h2,u4⟩:=bindI u3
   cases u4
   obtain ⟨⟨_,h3⟩,rfl⟩:=(fitTake 32).inv h2
   exact ⟨⟨rfl,h3,(show 0<Cu.K4 by decide),(show 0<Cu.K4 by decide)⟩,by unfold encTG; rfl⟩
  ·rw [if_pos rfl] at u3
   obtain ⟨d,r2,h2,u5⟩:=bindI u3
   cases u5
   obtain ⟨⟨h3,h4⟩,rfl⟩:=fitPt.inv h2
   refine ⟨⟨?_,rfl,h4⟩,by unfold encTG; rfl⟩
   unfold okTG; rw [if_pos rfl,h3]; rfl
 ·obtain ⟨b,d,p⟩:=x
  obtain ⟨h1,h2⟩:=hd
  unfold okTG at hx
  unfold encTG rdTG
  dsimp only at h1 h2 hx ⊢
  cases b
  ·rw [if_neg (by decide)] at hx ⊢
   obtain rfl:=nul_pt h2 hx
   rw [List.append_assoc,bind_some (fitTru.fwd _ rfl trivial),if_neg (by decide),bind_some ((fitTake 32).fwd r rfl h1)]
   rfl
  ·rw [if_pos rfl] at hx ⊢
   rw [Bool.and_eq_true] at hx
   obtain rfl:=of_decide_eq_true hx.2
   rw [List.append_assoc,bind_some (fitTru.fwd _ rfl trivial),if_pos rfl,bind_some (fitPt.fwd r hx.1 h2)]
   rfl
def domAM (t:MAmt):Prop:=t.value<18446744073709551616∧t.pt.x<Cu.K4∧t.pt.y<Cu.K4
theorem fitAM:Fits rdAM okAM encAM domAM:=by
 refine ⟨λ{l r x} h=>?_,λ{x} r hx hd=>?_⟩
 ·obtain ⟨b,r1,h1,u6⟩:=bindI h
  obtain ⟨_,rfl⟩:=fitTru.inv h1
  cases b
  ·rw [if_neg (by decide)] at u6
   obtain ⟨d,r2,h2,u7⟩:=bindI u6
   cases u7
   obtain ⟨⟨_,h3⟩,rfl⟩:=(fitNum 8).inv h2
   exact ⟨⟨rfl,h3,(show 0<Cu.K4 by decide),(show 0<Cu.K4 by decide)⟩,by unfold encAM; rfl⟩
  ·rw [if_pos rfl] at u6
   obtain ⟨d,r2,h2,u8⟩:=bindI u6
   cases u8
   obtain ⟨⟨h3,h4⟩,rfl⟩:=fitPt.inv h2
   refine ⟨⟨?_,(show 0<18446744073709551616 by decide),h4⟩,by unfold encAM; rfl⟩
   unfold okAM; rw [if_pos rfl,h3]; rfl
 ·obtain ⟨b,d,p⟩:=x
  obtain ⟨h1,h2⟩:=hd
  unfold okAM at hx
  unfold encAM rdAM
  dsimp only at h1 h2 hx ⊢
  cases b
  ·rw [if_neg (by decide)] at hx ⊢
   obtain rfl:=nul_pt h2 hx
   rw [List.append_assoc,bind_some (fitTru.fwd _ rfl trivial),if_neg (by decide),bind_some ((fitNum 8).fwd r rfl h1)]
   rfl
  ·rw [if_pos rfl] at hx ⊢
   rw [Bool.and_eq_true] at hx
   obtain rfl:=of_decide_eq_true hx.2
   rw [List.append_assoc,bind_some (fitTru.fwd _ rfl trivial),if_pos rfl,bind_some (fitPt.fwd r hx.1 h2)]
   rfl
theorem fitKind (k:Int→Bool) (hk:∀ z,k z=true→okO z=true):Fits (λl=>bindP octP (λz=>bindP (mustP (k z)) λ_=>retP z) l) k (λz=>[octB z]) (λ_=>True):=by
 refine ⟨λ{l r x} h=>?_,λ{x} r hx _=>?_⟩
 ·obtain ⟨z,r1,h1,u9⟩:=bindI h
  obtain ⟨_,r2,h2,u10⟩:=bindI u9
  obtain ⟨hz,rfl⟩:=mustI h2
  cases u10
  obtain ⟨_,rfl⟩:=fitOct.inv h1
  exact ⟨⟨hz,trivial⟩,rfl⟩
 ·show bindP octP _ _=_
  rw [bind_some (fitOct.fwd r (hk x hx) trivial),mustF hx]
  rfl
theorem kind_split {α:Type} (k:Int→Bool) (f:Int→Ps α):bindP octP (λz=>bindP (mustP (k z)) λ_=>f z)=bindP (λl=>bindP octP (λz=>bindP (mustP (k z)) λ_=>retP z) l) f:=by
 funext l
 cases h:octP l with
 | none=>rw [bind_none h,bind_none]; exact bind_none h
 | some u =>
  obtain ⟨z,r⟩:=u
  rw [bind_some h]
  cases hk:k z with
  | false =>
   have e:(λl=>bindP octP (λz=>bindP (mustP (k z)) λ_=>retP z) l) l=none:=by
    show bindP octP _ l=none
    rw [bind_some h,hk]
    rfl
   rw [bind_none e]
   rfl
  | true =>
   have e:(λl=>bindP octP (λz=>bindP (mustP (k z)) λ_=>retP z) l) l=some (z,r):=by
    show bindP octP _ l=_
    rw [bind_some h,hk]
    rfl
   rw [bind_some e]
   rfl
theorem kindO (z:Int) (h:okK z=true):okO z=true:=by
 unfold okK at h; unfold okO
 rw [Bool.and_eq_true,decide_eq_true_eq,decide_eq_true_eq] at h ⊢
 omega
theorem kindO2 (z:Int) (h:okK2 z=true):okO z=true:=by
 unfold okK2 at h; unfold okO
 rw [Bool.and_eq_true,decide_eq_true_eq,decide_eq_true_eq] at h ⊢
 omega
def domTx (x:Byt):Prop:=x.length<18446744073709551616
def rdOU':Ps MOu:=bindP (λl=>bindP octP (λz=>bindP (mustP (okK z)) λ_=>retP z) l) λk=>bindP rdTG λa=>bindP rdAM λb=>bindP (textP 6000) λr=>bindP (textP 6000) λs=>bindP (textP 128) λn=>bindP (textP 256) λc=>retP ⟨k,a,b,r,s,n,c⟩
theorem rdOU_eq:rdOU=rdOU':=kind_split okK _
def domOU (x:MOu):Prop:=True∧domTG x.asset∧domAM x.amount∧domTx x.range∧domTx x.surject∧domTx x.note∧domTx x.script
theorem fitOU1:Fits rdOU' okOU encOU domOU:=by
 refine ⟨λ{l r x} h=>?_,λ{x} r hx hd=>?_⟩
 ·obtain ⟨y1,r1,h1,u11⟩:=bindI h
  obtain ⟨⟨o1,d1⟩,rfl⟩:=(fitKind okK kindO).inv h1
  obtain ⟨y2,r2,h2,u12⟩:=bindI u11
  obtain ⟨⟨o2,d2⟩,rfl⟩:=(fitTG).inv h2
  obtain ⟨y3,r3,h3,u13⟩:=bindI u12
  obtain ⟨⟨o3,d3⟩,rfl⟩:=(fitAM).inv h3
  obtain ⟨y4,r4,h4,u14⟩:=bindI u13
  obtain ⟨⟨o4,d4⟩,rfl⟩:=(fitText 6000).inv h4
  obtain ⟨y5,r5,h5,u15⟩:=bindI u14
  obtain ⟨⟨o5,d5⟩,rfl⟩:=(fitText 6000).inv h5
  obtain ⟨y6,r6,h6,u16⟩:=bindI u15
  obtain ⟨⟨o6,d6⟩,rfl⟩:=(fitText 128).inv h6
  obtain ⟨y7,r7,h7,u17⟩:=bindI u16
  obtain ⟨⟨o7,d7⟩,rfl⟩:=(fitText 256).inv h7
  cases u17
  refine ⟨⟨?_,⟨d1,d2,d3,d4,d5,d6,d7⟩⟩,?_⟩
  ·unfold okOU; simp only [o1,o2,o3,o4,o5,o6,o7,Bool.and_self]; try rfl
  ·unfold encOU; simp only [List.append_assoc]
 ·obtain ⟨y1,y2,y3,y4,y5,y6,y7⟩:=x
  obtain ⟨d1,d2,d3,d4,d5,d6,d7⟩:=hd
  unfold okOU at hx
  simp only [Bool.and_eq_true] at hx
  obtain ⟨o1,o2,o3,o4,o5,o6,o7⟩:=hx
  dsimp only at *
  unfold encOU rdOU'
  simp only [List.append_assoc]
  rw [bind_some ((fitKind okK kindO).fwd _ o1 d1),bind_some ((fitTG).fwd _ o2 d2),bind_some ((fitAM).fwd _ o3 d3),bind_some ((fitText 6000).fwd _ o4 d4),bind_some ((fitText 6000).fwd _ o5 d5),bind_some ((fitText 128).fwd _ o6 d6),bind_some ((fitText 256).fwd _ o7 d7)]
  rfl
theorem fitOU:Fits rdOU okOU encOU domOU:=by rw [rdOU_eq]; exact fitOU1
def domPA (x:MPa):Prop:=True∧(x.keys.length<18446744073709551616∧∀ k∈x.keys,k.length=32)
theorem fitPA:Fits rdPA okPA encPA domPA:=by
 refine ⟨λ{l r x} h=>?_,λ{x} r hx hd=>?_⟩
 ·obtain ⟨y1,r1,h1,u18⟩:=bindI h
  obtain ⟨⟨o1,d1⟩,rfl⟩:=(fitOct).inv h1
  obtain ⟨y2,r2,h2,u19⟩:=bindI u18
  obtain ⟨⟨o2,d2⟩,rfl⟩:=(fitList (fitTake 32) 16).inv h2
  cases u19
  refine ⟨⟨?_,⟨d1,d2⟩⟩,?_⟩
  ·unfold okPA; rw [all_true,Bool.and_true] at o2; simp only [o1,o2,Bool.and_self]; try rfl
  ·unfold encPA; simp only [List.append_assoc]
 ·obtain ⟨y1,y2⟩:=x
  obtain ⟨d1,d2⟩:=hd
  unfold okPA at hx
  simp only [Bool.and_eq_true] at hx
  obtain ⟨o1,o2⟩:=hx
  have o2:(decide (y2.length≤16) && y2.all λ_=>true)=true:=by rw [o2,all_true]; rfl
  dsimp only at *
  unfold encPA rdPA
  simp only [List.append_assoc]
  rw [bind_some ((fitOct).fwd _ o1 d1),bind_some ((fitList (fitTake 32) 16).fwd _ o2 d2)]
  rfl
def domHE (h:MHe):Prop:=h.prev.length=32∧h.height<18446744073709551616∧h.time<18446744073709551616∧h.root.length=32∧h.main.length=32∧domTx h.reward∧domPA h.next
theorem fitHE:Fits rdHE okHE encHE domHE:=by
 refine ⟨λ{l r x} h=>?_,λ{x} r hx hd=>?_⟩
 ·obtain ⟨y1,r1,h1,u24⟩:=bindI h
  obtain ⟨⟨_,d1⟩,rfl⟩:=(fitTake 32).inv h1
  obtain ⟨y2,r2,h2,u25⟩:=bindI u24
  obtain ⟨⟨_,d2⟩,rfl⟩:=(fitNum 8).inv h2
  obtain ⟨y3,r3,h3,u26⟩:=bindI u25
  obtain ⟨⟨_,d3⟩,rfl⟩:=(fitNum 8).inv h3
  obtain ⟨y4,r4,h4,u27⟩:=bindI u26
  obtain ⟨⟨_,d4⟩,rfl⟩:=(fitTake 32).inv h4
  obtain ⟨y5,r5,h5,u28⟩:=bindI u27
  obtain ⟨⟨_,d5⟩,rfl⟩:=(fitTake 32).inv h5
  obtain ⟨y6,r6,h6,u29⟩:=bindI u28
  obtain ⟨⟨o6,d6⟩,rfl⟩:=(fitText 256).inv h6
  obtain ⟨c,r7,h7,u30⟩:=bindI u29
  obtain ⟨_,rfl⟩:=fitTru.inv h7
  obtain ⟨n,r8,h8,u31⟩:=bindI u30
  cases u31
  cases c
  ·rw [if_neg (by decide)] at h8
   cases h8
   refine ⟨⟨?_,d1,d2,d3,d4,d5,d6,trivial,Nat.zero_lt_succ _,λ_ u31=>by cases u31⟩,?_⟩
   ·unfold okHE; dsimp only; rw [o6]; rfl
   ·unfold encHE encT; dsimp only; rw [if_neg (by decide)]; simp only [List.append_assoc,List.nil_append]
  ·rw [if_pos rfl] at h8
   obtain ⟨⟨o8,d8⟩,rfl⟩:=fitPA.inv h8
   refine ⟨⟨?_,d1,d2,d3,d4,d5,d6,d8⟩,?_⟩
   ·unfold okHE; dsimp only; rw [o6,if_pos rfl,o8]; rfl
   ·unfold encHE encT; dsimp only; rw [if_pos rfl]; simp only [List.append_assoc]
 ·obtain ⟨y1,y2,y3,y4,y5,y6,c,n⟩:=x
  obtain ⟨d1,d2,d3,d4,d5,d6,d7⟩:=hd
  unfold okHE at hx
  rw [Bool.and_eq_true] at hx
  obtain ⟨o6,o7⟩:=hx
  unfold encHE rdHE
  dsimp only at *
  show bindP _ _ (_++r)=_
  rw [show y1++(nb 8 y2++(nb 8 y3++(y4++(y5++((varB y6.length++y6)++([trB c]++(if c=true then encPA n else [])))))))++r=y1++(nb 8 y2++(nb 8 y3++(y4++(y5++(encT y6++([trB c]++((if c=true then encPA n else [])++r))))))) by unfold encT; simp only [List.append_assoc]]
  rw [bind_some ((fitTake 32).fwd _ rfl d1),bind_some ((fitNum 8).fwd _ rfl d2),bind_some ((fitNum 8).fwd _ rfl d3),bind_some ((fitTake 32).fwd _ rfl d4),bind_some ((fitTake 32).fwd _ rfl d5),bind_some ((fitText 256).fwd _ o6 d6),bind_some (fitTru.fwd _ rfl trivial)]
  cases c
  ·rw [if_neg (by decide)] at o7
   rw [Bool.and_eq_true] at o7
   obtain ⟨t,ks⟩:=n
   obtain rfl:t=0:=of_decide_eq_true o7.1
   obtain rfl:ks=[]:=List.length_eq_zero_iff.1 (of_decide_eq_true o7.2)
   rfl
  ·rw [if_pos rfl] at o7
   rw [if_pos rfl,if_pos rfl,bind_some (fitPA.fwd _ o7 d7)]
   rfl
end Wr
end
section
namespace Wr
open Go.RowKit Sy
set_option maxRecDepth 100000
set_option maxHeartbeats 4000000
def domIS (i:MIs):Prop:=domAM i.amount∧domTx i.range∧i.tokens<18446744073709551616∧i.entropy.length=32∧i.blind<Cu.K4
theorem nul_am {a:MAmt} (hd:domAM a) (h:nulAM a=true):a=zAM:=by
 obtain ⟨b,v,p⟩:=a
 unfold nulAM at h
 simp only [Bool.and_eq_true,decide_eq_true_eq] at h
 obtain ⟨⟨h1,h2⟩,h3⟩:=h
 obtain rfl:=nul_pt hd.2 h3
 cases b
 ·subst h2; rfl
 ·cases h1
theorem nul_is {i:MIs} (hd:domIS i) (h0:i.kind=0) (h:nulIS i=true):i=zIS:=by
 obtain ⟨k,a,r,t,e,s⟩:=i
 unfold nulIS at h
 simp only [Bool.and_eq_true,decide_eq_true_eq] at h
 obtain ⟨h1,h2,h3,h4,h5⟩:=h
 obtain rfl:=nul_am hd.1 h1
 obtain rfl:r=[]:=List.length_eq_zero_iff.1 h2
 dsimp only at h0
 subst h0 h3 h4 h5
 rfl
theorem dom_zIS:domIS zIS:=⟨⟨(show 0<18446744073709551616 by decide),(show 0<Cu.K4 by decide),(show 0<Cu.K4 by decide)⟩,(show 0<18446744073709551616 by decide),(show 0<18446744073709551616 by decide),rfl,(show 0<Cu.K4 by decide)⟩
theorem ok_zIS:okIS zIS=true:=by decide
theorem fitIS:Fits rdIS okIS encIS domIS:=by
 refine ⟨λ{l r x} h=>?_,λ{x} r hx hd=>?_⟩
 ·obtain ⟨k,r1,h1,u1⟩:=bindI h
  obtain ⟨⟨o1,_⟩,rfl⟩:=fitOct.inv h1
  by_cases hk:k=0
  ·rw [if_pos hk] at u1
   cases u1
   subst hk
   exact ⟨⟨ok_zIS,dom_zIS⟩,by unfold encIS; rfl⟩
  ·rw [if_neg hk] at u1
   obtain ⟨_,r2,h2,u2⟩:=bindI u1
   obtain ⟨hz,rfl⟩:=mustI h2
   unfold fulRd at u2
   obtain ⟨y1,r1,h1,u3⟩:=bindI u2
   obtain ⟨⟨o1,d1⟩,rfl⟩:=fitAM.inv h1
   obtain ⟨y2,r2,h2,u4⟩:=bindI u3
   obtain ⟨⟨o2,d2⟩,rfl⟩:=(fitText 6000).inv h2
   obtain ⟨y3,r3,h3,u5⟩:=bindI u4
   obtain ⟨⟨_,d3⟩,rfl⟩:=(fitNum 8).inv h3
   obtain ⟨y4,r4,h4,u6⟩:=bindI u5
   obtain ⟨⟨_,d4⟩,rfl⟩:=(fitTake 32).inv h4
   obtain ⟨y5,r5,h5,u7⟩:=bindI u6
   obtain ⟨⟨o5,d5⟩,rfl⟩:=fitSC.inv h5
   cases u7
   refine ⟨⟨?_,d1,d2,d3,d4,d5⟩,?_⟩
   ·unfold okIS fulIS; dsimp only; rw [if_neg hk,if_pos (of_decide_eq_true hz),o1,o2,o5]; rfl
   ·unfold encIS bodyIS; dsimp only; rw [if_neg hk]; simp only [List.append_assoc]
 ·by_cases hk:x.kind=0
  ·have hn:nulIS x=true:=by unfold okIS at hx; rwa [if_pos hk] at hx
   obtain rfl:=nul_is hd hk hn
   show bindP octP _ ([octB 0]++[]++r)=_
   rw [List.append_nil,bind_some (fitOct.fwd r (by decide) trivial)]
   rfl
  ·unfold okIS at hx
   rw [if_neg hk] at hx
   by_cases hk2:x.kind=1∨x.kind=2
   ·rw [if_pos hk2] at hx
    obtain ⟨k,y1,y2,y3,y4,y5⟩:=x
    unfold fulIS at hx
    simp only [Bool.and_eq_true] at hx
    obtain ⟨o1,o2,o5⟩:=hx
    obtain ⟨d1,d2,d3,d4,d5⟩:=hd
    dsimp only at *
    unfold encIS bodyIS rdIS
    dsimp only
    rw [if_neg hk]
    simp only [List.append_assoc]
    rw [bind_some (fitOct.fwd _ (by rcases hk2 with rfl | rfl <;> decide) trivial),if_neg hk,mustF (decide_eq_true hk2)]
    unfold fulRd
    rw [bind_some (fitAM.fwd _ o1 d1),bind_some ((fitText 6000).fwd _ o2 d2),bind_some ((fitNum 8).fwd _ rfl d3),bind_some ((fitTake 32).fwd _ rfl d4),bind_some (fitSC.fwd _ o5 d5)]
    rfl
   ·rw [if_neg hk2] at hx; cases hx
def domPG (x:MPg):Prop:=x.header.length=32∧domTx x.tx∧x.place<4294967296∧x.many<4294967296∧(x.path.length<18446744073709551616∧∀ k∈x.path,k.length=32)∧domTx x.script
theorem fitPG:Fits rdPG okPG encPG domPG:=by
 refine ⟨λ{l r x} h=>?_,λ{x} r hx hd=>?_⟩
 ·obtain ⟨y1,r1,h1,u8⟩:=bindI h
  obtain ⟨⟨o1,d1⟩,rfl⟩:=(fitTake 32).inv h1
  obtain ⟨y2,r2,h2,u9⟩:=bindI u8
  obtain ⟨⟨o2,d2⟩,rfl⟩:=(fitText 1024).inv h2
  obtain ⟨y3,r3,h3,u10⟩:=bindI u9
  obtain ⟨⟨o3,d3⟩,rfl⟩:=(fitNum 4).inv h3
  obtain ⟨y4,r4,h4,u11⟩:=bindI u10
  obtain ⟨⟨o4,d4⟩,rfl⟩:=(fitNum 4).inv h4
  obtain ⟨y5,r5,h5,u12⟩:=bindI u11
  obtain ⟨⟨o5,d5⟩,rfl⟩:=(fitList (fitTake 32) 32).inv h5
  obtain ⟨y6,r6,h6,u13⟩:=bindI u12
  obtain ⟨⟨o6,d6⟩,rfl⟩:=(fitText 256).inv h6
  cases u13
  refine ⟨⟨?_,⟨d1,d2,d3,d4,d5,d6⟩⟩,?_⟩
  ·unfold okPG; rw [all_true,Bool.and_true] at o5; simp only [o2,o5,o6,Bool.and_self]; try rfl
  ·unfold encPG; simp only [List.append_assoc]
 ·obtain ⟨y1,y2,y3,y4,y5,y6⟩:=x
  obtain ⟨d1,d2,d3,d4,d5,d6⟩:=hd
  unfold okPG at hx
  simp only [Bool.and_eq_true] at hx
  obtain ⟨o2,o5,o6⟩:=hx
  have o5:(decide (y5.length≤32) && y5.all λ_=>true)=true:=by rw [o5,all_true]; rfl
  dsimp only at *
  unfold encPG rdPG
  simp only [List.append_assoc]
  rw [bind_some ((fitTake 32).fwd _ rfl d1),bind_some ((fitText 1024).fwd _ o2 d2),bind_some ((fitNum 4).fwd _ rfl d3),bind_some ((fitNum 4).fwd _ rfl d4),bind_some ((fitList (fitTake 32) 32).fwd _ o5 d5),bind_some ((fitText 256).fwd _ o6 d6)]
  rfl
theorem nul_pg {p:MPg} (h:nulPG p=true):p=zPG:=by
 obtain ⟨h,t,p,m,l,s⟩:=p
 unfold nulPG at h
 simp only [Bool.and_eq_true,decide_eq_true_eq] at h
 obtain ⟨h1,h2,h3,h4,h5,h6⟩:=h
 obtain rfl:=List.length_eq_zero_iff.1 h2
 obtain rfl:=List.length_eq_zero_iff.1 h5
 obtain rfl:=List.length_eq_zero_iff.1 h6
 subst h1 h3 h4
 rfl
theorem dom_zPG:domPG zPG:=⟨rfl,(show 0<18446744073709551616 by decide),(show 0<4294967296 by decide),(show 0<4294967296 by decide),⟨(show 0<18446744073709551616 by decide),λ_ h=>by cases h⟩,(show 0<18446744073709551616 by decide)⟩
def domIN (i:MIn):Prop:=i.prev.length=32∧i.index<4294967296∧domIS i.issue∧domPG i.peg∧i.wit.length<18446744073709551616∧∀ x∈i.wit,domTx x
theorem fitIN:Fits rdIN okIN encIN domIN:=by
 refine ⟨λ{l r x} h=>?_,λ{x} r hx hd=>?_⟩
 ·obtain ⟨k,r1,h1,u14⟩:=bindI h
  obtain ⟨⟨o0,_⟩,rfl⟩:=fitOct.inv h1
  obtain ⟨_,r2,h2,u15⟩:=bindI u14
  obtain ⟨ok,rfl⟩:=mustI h2
  obtain ⟨y1,r1,h1,u16⟩:=bindI u15
  obtain ⟨⟨_,d1⟩,rfl⟩:=(fitTake 32).inv h1
  obtain ⟨y2,r2,h2,u17⟩:=bindI u16
  obtain ⟨⟨_,d2⟩,rfl⟩:=(fitNum 4).inv h2
  obtain ⟨y3,r3,h3,u18⟩:=bindI u17
  obtain ⟨⟨o3,d3⟩,rfl⟩:=fitIS.inv h3
  obtain ⟨y4,r4,h4,u19⟩:=bindI u18
  obtain ⟨y5,r5,h5,u20⟩:=bindI u19
  obtain ⟨⟨o5,d5⟩,rfl⟩:=(fitList (fitText 256) 16).inv h5
  cases u20
  have o5':okW y5=true:=o5
  by_cases hk:k=2
  ·rw [if_pos hk] at h4
   obtain ⟨⟨o4,d4⟩,rfl⟩:=fitPG.inv h4
   refine ⟨⟨?_,d1,d2,d3,d4,d5⟩,?_⟩
   ·unfold okIN; dsimp only; rw [if_pos hk,ok,o3,o4,o5']; rfl
   ·unfold encIN; dsimp only; rw [if_pos hk]; simp only [List.append_assoc]
  ·rw [if_neg hk] at h4
   cases h4
   refine ⟨⟨?_,d1,d2,d3,dom_zPG,d5⟩,?_⟩
   ·unfold okIN; dsimp only; rw [if_neg hk,ok,o3,o5']; rfl
   ·unfold encIN; dsimp only; rw [if_neg hk]; simp only [List.append_assoc,List.nil_append]
 ·obtain ⟨k,y1,y2,y3,y4,y5⟩:=x
  obtain ⟨d1,d2,d3,d4,d5⟩:=hd
  unfold okIN at hx
  rw [Bool.and_eq_true,Bool.and_eq_true,Bool.and_eq_true] at hx
  obtain ⟨ok,o3,o4,o5⟩:=hx
  dsimp only at *
  unfold encIN rdIN
  dsimp only
  by_cases hk:k=2
  ·rw [if_pos hk] at o4 ⊢
   simp only [List.append_assoc]
   rw [bind_some (fitOct.fwd _ (kindO2 k ok) trivial),mustF ok,bind_some ((fitTake 32).fwd _ rfl d1),bind_some ((fitNum 4).fwd _ rfl d2),bind_some (fitIS.fwd _ o3 d3),if_pos hk,bind_some (fitPG.fwd _ o4 d4),bind_some ((fitList (fitText 256) 16).fwd _ o5 d5)]
   rfl
  ·rw [if_neg hk] at o4 ⊢
   obtain rfl:=nul_pg o4
   simp only [List.append_assoc,List.nil_append]
   rw [bind_some (fitOct.fwd _ (kindO2 k ok) trivial),mustF ok,bind_some ((fitTake 32).fwd _ rfl d1),bind_some ((fitNum 4).fwd _ rfl d2),bind_some (fitIS.fwd _ o3 d3),if_neg hk,bind_some (show retP zPG _=some (zPG,_) from rfl),bind_some ((fitList (fitText 256) 16).fwd _ o5 d5)]
   rfl
def domTR (x:MTr):Prop:=x.after<18446744073709551616∧(x.ins.length<18446744073709551616∧∀ o∈x.ins,domIN o)∧(x.outs.length<18446744073709551616∧∀ o∈x.outs,domOU o)
theorem fitTR:Fits rdTR okTR encTR domTR:=by
 refine ⟨λ{l r x} h=>?_,λ{x} r hx hd=>?_⟩
 ·obtain ⟨y1,r1,h1,u21⟩:=bindI h
  obtain ⟨⟨o1,d1⟩,rfl⟩:=(fitNum 8).inv h1
  obtain ⟨y2,r2,h2,u22⟩:=bindI u21
  obtain ⟨⟨o2,d2⟩,rfl⟩:=(fitList fitIN 16).inv h2
  obtain ⟨y3,r3,h3,u23⟩:=bindI u22
  obtain ⟨⟨o3,d3⟩,rfl⟩:=(fitList fitOU 16).inv h3
  cases u23
  refine ⟨⟨?_,⟨d1,d2,d3⟩⟩,?_⟩
  ·unfold okTR; simp only [o2,o3,Bool.and_self]; try rfl
  ·unfold encTR; simp only [List.append_assoc]
 ·obtain ⟨y1,y2,y3⟩:=x
  obtain ⟨d1,d2,d3⟩:=hd
  unfold okTR at hx
  simp only [Bool.and_eq_true] at hx
  obtain ⟨o2,o3⟩:=hx
  rw [← Bool.and_eq_true] at o2 o3
  dsimp only at *
  unfold encTR rdTR
  simp only [List.append_assoc]
  rw [bind_some ((fitNum 8).fwd _ rfl d1),bind_some ((fitList fitIN 16).fwd _ o2 d2),bind_some ((fitList fitOU 16).fwd _ o3 d3)]
  rfl
def domSG (x:MSg):Prop:=True∧x.sig.length=64
theorem fitSG:Fits rdSG okSG encSG domSG:=by
 refine ⟨λ{l r x} h=>?_,λ{x} r hx hd=>?_⟩
 ·obtain ⟨y1,r1,h1,u24⟩:=bindI h
  obtain ⟨⟨o1,d1⟩,rfl⟩:=(fitOct).inv h1
  obtain ⟨y2,r2,h2,u25⟩:=bindI u24
  obtain ⟨⟨o2,d2⟩,rfl⟩:=(fitTake 64).inv h2
  cases u25
  refine ⟨⟨?_,⟨d1,d2⟩⟩,?_⟩
  ·unfold okSG; simp only [o1,Bool.and_self]; try rfl
  ·unfold encSG; simp only [List.append_assoc]
 ·obtain ⟨y1,y2⟩:=x
  obtain ⟨d1,d2⟩:=hd
  unfold okSG at hx
  have o1:=hx
  dsimp only at *
  unfold encSG rdSG
  simp only [List.append_assoc]
  rw [bind_some ((fitOct).fwd _ o1 d1),bind_some ((fitTake 64).fwd _ rfl d2)]
  rfl
def domBL (x:MBl):Prop:=domHE x.header∧(x.sigs.length<18446744073709551616∧∀ o∈x.sigs,domSG o)∧(x.txs.length<18446744073709551616∧∀ o∈x.txs,domTR o)
theorem fitBL:Fits rdBL okBL encBL domBL:=by
 refine ⟨λ{l r x} h=>?_,λ{x} r hx hd=>?_⟩
 ·obtain ⟨y1,r1,h1,u26⟩:=bindI h
  obtain ⟨⟨o1,d1⟩,rfl⟩:=(fitHE).inv h1
  obtain ⟨y2,r2,h2,u27⟩:=bindI u26
  obtain ⟨⟨o2,d2⟩,rfl⟩:=(fitList fitSG 16).inv h2
  obtain ⟨y3,r3,h3,u28⟩:=bindI u27
  obtain ⟨⟨o3,d3⟩,rfl⟩:=(fitList fitTR 64).inv h3
  cases u28
  refine ⟨⟨?_,⟨d1,d2,d3⟩⟩,?_⟩
  ·unfold okBL; simp only [o1,o2,o3,Bool.and_self]; try rfl
  ·unfold encBL; simp only [List.append_assoc]
 ·obtain ⟨y1,y2,y3⟩:=x
  obtain ⟨d1,d2,d3⟩:=hd
  unfold okBL at hx
  simp only [Bool.and_eq_true] at hx
  obtain ⟨o1,o2,o3⟩:=hx
  rw [← Bool.and_eq_true] at o2 o3
  dsimp only at *
  unfold encBL rdBL
  simp only [List.append_assoc]
  rw [bind_some ((fitHE).fwd _ o1 d1),bind_some ((fitList fitSG 16).fwd _ o2 d2),bind_some ((fitList fitTR 64).fwd _ o3 d3)]
  rfl
end Wr
end
section
namespace Wr
open Go.RowKit Sy
set_option maxRecDepth 100000
set_option maxHeartbeats 4000000
def m0:MTx:=⟨1,[⟨2,List.replicate 32 0⟩]⟩
def b49:Byt:=encMT m0
theorem m0_ok:okMT m0=true:=by kernel_rfl
theorem b49_len:b49.length=49:=by kernel_rfl
theorem m0_rd:allP rdMT b49=some m0:=by kernel_rfl
theorem m0_at {w0:Base} {w:World} {L:Blocks} {g:Nat} {t:TypeId} (hw:St w0 w L) (hL:(g,t,(Value.int .u64 2::Z32).toArray)∈L):repMT (rdW w) [.int .u64 1,.slice (some ⟨g,0,none⟩) 1 1] m0:=by
 refine ⟨_,rfl,(show 1<18446744073709551616 by decide),_,_,_,rfl,rfl,Nat.le_refl _,(by decide),λ_=>⟨g,0,rfl,λj x hx=>?_⟩⟩
 cases j with
 | succ j=>cases hx
 | zero =>
  cases hx
  refine ⟨Value.int .u64 2::Z32,rfl,λu hu=>?_,⟨rfl,by decide,rfl⟩,λi u hu=>?_⟩
  ·rcases List.mem_cons.1 hu with rfl | hu
   ·rfl
   ·obtain ⟨y,_,rfl⟩:=List.mem_map.1 hu; rfl
  ·exact rdB_world hw (R:=[(g,t,(Value.int .u64 2::Z32).toArray)]) (λb hb=>by rw [List.mem_singleton.1 hb]; exact hL) _ _ _ ⟨t,_,List.mem_singleton.2 rfl,by rw [Nat.zero_mul,Nat.add_zero,Nat.zero_add,List.getElem?_toArray]; exact hu⟩
theorem alive12 (w:World):Calls Tryz.prog 11 #[] w (Gets w (.bool true)):=by
 refine Sy.enter (args:=[]) Tryz.func11 rfl kL ?_
 refine sC ?_
 refine sP (.bool false) ?_
 refine sA ?_
 refine sP (.agg (Value.int .u64 2::Z32).toArray) ?_
 refine Sy.make kR 98 (Value.int .u64 2::Z32).toArray (λg=>.slice (some ⟨g,0,none⟩) 1 1) (Makes.one 99 98 _ _ 33 _ (Value.int .u64 2::Z32) rfl kR Tryz.underlying99 info_mo rfl rfl rfl (by decide) (by decide)) (λg=>?_)
 refine sP (.agg #[.int .u64 1,.slice (some ⟨g,0,none⟩) 1 1]) ?_
 refine Sy.callN kR 35 #[.agg #[.int .u64 1,.slice (some ⟨g,0,none⟩) 1 1]] kF (BytE (okMT m0) b49) (λw' hw=>ex_mtx (rep:=repMT) (ok:=okMT) (enc:=encMT) (wt:=wtMT) monoMT mainTx_w w' [.int .u64 1,.slice (some ⟨g,0,none⟩) 1 1] m0 (m0_at hw (List.mem_append_right _ (List.mem_singleton.2 rfl))) rfl (by decide)) (λv M1 hM=>?_)
 rcases hM with ⟨_,u,rfl,hN⟩ | ⟨h,_⟩
 case inr=>rw [m0_ok] at h; cases h
 have hN0:=hN.byt
 obtain ⟨A,n,cp,rfl,h2,h3,h4,h5⟩:=hN.byt
 obtain rfl:49=n:=by rw [← h2]; exact b49_len.symm
 obtain ⟨gb,ob,rfl,hq⟩:=h5 (by intro e; have q:=b49_len; rw [e] at q; cases q)
 refine sp rfl<|sp rfl<|sp rfl<|sp rfl<|sp rfl ?_
 refine sA ?_
 refine sp rfl ?_
 refine Sy.callN kR 36 #[.slice (some ⟨gb,ob,none⟩) 49 cp] kF (RdE 2 ([Value.int .u64 0]++[Value.slice none 0 0]) repMT (allP rdMT b49)) (λw' hw=>rdx_mtx (rep:=repMT) (p:=rdMT) monoMT (@oneMT) mainTx_r w' _ b49 (hN0.le (rdB_world hw (λb hb=>List.mem_append_right _ hb))) (by rw [b49_len]; decide)) (λv M2 hM=>?_)
 rcases hM with ⟨x,cs,hx,rfl,hcs,hrep⟩ | ⟨h,_⟩
 case inr=>rw [m0_rd] at h; cases h
 rw [m0_rd] at hx
 obtain rfl:m0=x:=by injection hx
 obtain ⟨v2,rfl,_,A2,n2,c2,rfl,k2,k3,k4,k5⟩:=hrep
 obtain rfl:1=n2:=k2
 obtain ⟨g2,o2,rfl,hq2⟩:=k5 (by intro e; cases e)
 obtain ⟨cs0,d1,d2,⟨rfl,_,_⟩,d3⟩:=hq2 0 _ rfl
 refine sp rfl<|sp rfl<|sp rfl ?_
 refine sM 101 #[.int .u64 0,.slice none 0 0] (λg3=>?_)
 refine Sy.permS List.perm_append_comm ?_
 refine sw 0 rfl #[.int .u64 1,.slice (some ⟨g2,o2,none⟩) 1 c2] (wA rfl)<|sp rfl ?_
 refine sA ?_
 refine sP (.agg zOut.toArray) ?_
 refine Sy.callN kR 20 #[.agg zOut.toArray] kF (BytE false []) (λw' hw=>ex_outz (rep:=repOZ) (ok:=λ_=>false) (enc:=λ_=>[]) (wt:=λ_=>1) monoOZ outz_w w' zOut () rfl rfl (by decide)) (λv M3 hM=>?_)
 rcases hM with ⟨h,_⟩ | ⟨_,rfl,rfl⟩
 case inl=>cases h
 rw [List.append_nil]
 refine sp rfl<|sp rfl<|sp rfl<|sp rfl<|sp rfl ?_
 obtain ⟨X,hX⟩:∃ X,X=[(g,98,(Value.int .u64 2::Z32).toArray)]++M1++M2:=⟨_,rfl⟩
 have i1:∀ b∈M1,b∈(g3,101,#[.int .u64 1,.slice (some ⟨g2,o2,none⟩) 1 c2])::([]++[(g,98,(Value.int .u64 2::Z32).toArray)]++M1++M2):=λb hb=>by simp [hb]
 have i2:∀ b∈M2,b∈(g3,101,#[.int .u64 1,.slice (some ⟨g2,o2,none⟩) 1 c2])::([]++[(g,98,(Value.int .u64 2::Z32).toArray)]++M1++M2):=λb hb=>by simp [hb]
 refine sA ?_
 refine sp rfl<|sP (.bool true)<|sp rfl<|sp rfl<|sP (.int .i64 49)<|sP (.bool true)<|sP (.bool true) ?_
 refine sp rfl<|sp rfl<|sS (.pointer (some ⟨gb,ob+7*1,none⟩)) (Quiet.pure (exec_atO 27 _ _ _ (some ⟨gb,ob,none⟩) gb ob 49 cp 7 1 .i64 rfl rfl rfl rfl Tryz.underlying27 kF (by decide)))<|sS (bv 1) (cellC (w0:=Base.of w) (R:=M1) (g:=gb) (f:=ob+7*1) (v:=bv 1) (.inr (hq 7 1 (by kernel_rfl))) i1 rfl Tryz.underlying5)<|sP (.bool true)<|sP (.bool true) ?_
 refine sp rfl<|sp rfl<|sS (.pointer (some ⟨gb,ob+8*1,none⟩)) (Quiet.pure (exec_atO 27 _ _ _ (some ⟨gb,ob,none⟩) gb ob 49 cp 8 1 .i64 rfl rfl rfl rfl Tryz.underlying27 kF (by decide)))<|sS (bv 1) (cellC (w0:=Base.of w) (R:=M1) (g:=gb) (f:=ob+8*1) (v:=bv 1) (.inr (hq 8 1 (by kernel_rfl))) i1 rfl Tryz.underlying5)<|sP (.bool true)<|sP (.bool true) ?_
 refine sp rfl<|sp rfl<|sP (.bool true)<|sP (.bool true) ?_
 refine sp rfl<|sP (.pointer (some ⟨g3,0,none⟩))<|sS (.int .u64 1) (qc 0 0 rfl rfl Tryz.underlying22)<|sP (.bool true)<|sP (.bool true) ?_
 refine sp rfl<|sP (.pointer (some ⟨g3,1,none⟩))<|sS (.slice (some ⟨g2,o2,none⟩) 1 c2) (qc 0 1 rfl rfl Tryz.underlying99)<|sP (.int .i64 1)<|sP (.bool true)<|sP (.bool true) ?_
 refine sp rfl<|sP (.pointer (some ⟨g3,1,none⟩))<|sS (.slice (some ⟨g2,o2,none⟩) 1 c2) (qc 0 1 rfl rfl Tryz.underlying99)<|sS (.pointer (some ⟨g2,o2+0*33,none⟩)) (Quiet.pure (exec_atO 99 _ _ _ (some ⟨g2,o2,none⟩) g2 o2 1 c2 0 33 .i64 rfl rfl rfl rfl Tryz.underlying99 kF (by decide)))<|sP (.pointer (some ⟨g2,o2+0*33,none⟩))<|sS (.int .u64 2) (cellC (w0:=Base.of w) (R:=M2) (g:=g2) (f:=o2+0*33) (v:=.int .u64 2) (.inr d3.one) i2 rfl Tryz.underlying22)<|sP (.bool true)<|sP (.bool true) ?_
 refine sp rfl<|sp rfl<|sP (.bool true)<|sP (.bool true)<|sp rfl ?_
 refine sG<|Sy.ret ?_
 exact rV (.bool true) rfl
end Wr
end
section
namespace Wr
open Go.RowKit Sy
set_option maxRecDepth 100000
set_option maxHeartbeats 4000000
end Wr
end
section
namespace Wr
open Go.RowKit Sy
set_option maxRecDepth 100000
set_option maxHeartbeats 4000000
theorem lst_dom {α:Type} {C:Rdr} {k:Nat} {rep:Rdr→List Value→α→Prop} {v:Value} {l:List α} {dom:α→Prop} (h:LstR C k rep v l) (hd:∀ cs x,rep C cs x→dom x):l.length<18446744073709551616∧∀ x∈l,dom x:=by
 obtain ⟨A,n,cp,rfl,h2,h3,h4,h5⟩:=h
 refine ⟨by simp only [maxLen] at h4; omega,λx hx=>?_⟩
 obtain ⟨g,o,_,hq⟩:=h5 (by intro e; rw [e] at hx; cases hx)
 obtain ⟨j,hj⟩:=List.getElem?_of_mem hx
 obtain ⟨cs,_,_,h6,_⟩:=hq j x hj
 exact hd cs x h6
theorem byt_dom {C:Rdr} {v:Value} {b:Byt} (h:BytR C v b):domTx b:=by
 obtain ⟨A,n,cp,rfl,h2,h3,h4,_⟩:=h
 unfold domTx
 simp only [maxLen] at h4; omega
theorem domOU_of {C:Rdr} {cs:List Value} {o:MOu} (h:repOU C cs o):domOU o:=by
 obtain ⟨vr,vs,vn,vc,_,h1,h2,h3,h4,h5,h6⟩:=h
 exact ⟨trivial,h1,h2,byt_dom h3,byt_dom h4,byt_dom h5,byt_dom h6⟩
theorem domPG_of {C:Rdr} {cs:List Value} {p:MPg} (h:repPG C cs p):domPG p:=by
 obtain ⟨vt,vp,vs,_,h1,h2,h3,h4,h5,h6⟩:=h
 exact ⟨h1,byt_dom h2,h3,h4,lst_dom h5 (λ_ _ h=>h.2),byt_dom h6⟩
theorem domIS_of {C:Rdr} {cs:List Value} {i:MIs} (h:repIS C cs i):domIS i:=by
 obtain ⟨vr,_,h1,h2,h3,h4,h5⟩:=h
 exact ⟨h1,byt_dom h2,h3,h4,h5⟩
theorem domIN_of {C:Rdr} {cs:List Value} {i:MIn} (h:repIN C cs i):domIN i:=by
 obtain ⟨ci,cg,vw,_,h1,h2,h3,h4,h5⟩:=h
 exact ⟨h1,h2,domIS_of h3,domPG_of h4,lst_dom h5 (λ_ _ ⟨_,_,h⟩=>byt_dom h)⟩
theorem domTR_of {C:Rdr} {cs:List Value} {t:MTr} (h:repTR C cs t):domTR t:=by
 obtain ⟨vi,vo,_,h1,h2,h3⟩:=h
 exact ⟨h1,lst_dom h2 (λ_ _ h=>domIN_of h),lst_dom h3 (λ_ _ h=>domOU_of h)⟩
theorem domHE_of {C:Rdr} {cs:List Value} {h:MHe} (hx:repHE C cs h):domHE h:=by
 obtain ⟨vr,vk,_,h1,h2,h3,h4,h5,h6,h7⟩:=hx
 exact ⟨h1,h4,h5,h2,h3,byt_dom h6,trivial,lst_dom h7 (λ_ _ h=>h.2)⟩
theorem domBL_of {C:Rdr} {cs:List Value} {b:MBl} (h:repBL C cs b):domBL b:=by
 obtain ⟨ch,vs,vt,_,h1,h2,h3⟩:=h
 exact ⟨domHE_of h1,lst_dom h2 (λ_ _ h=>⟨trivial,h.2⟩),lst_dom h3 (λ_ _ h=>domTR_of h)⟩
theorem sum_lin {α:Type} {wt sz:α→Nat} {a c:Nat} (h:∀ x,wt x≤a*sz x+c) (l:List α):(l.map wt).sum≤a*(l.map sz).sum+c*l.length:=by
 induction l with
 | nil=>exact Nat.zero_le _
 | cons x l ih =>
  have q:=h x
  rw [List.map_cons,List.sum_cons,List.map_cons,List.sum_cons,List.length_cons,Nat.mul_add,Nat.mul_succ]
  omega
theorem linOU (o:MOu):wtOU o≤1*szPU o+105:=by unfold wtOU szPU; omega
theorem linIN (i:MIn):wtIN i≤32*szIN i+300:=by
 have a:=sum_lin (wt:=wtT) (sz:=λx=>x.length) (a:=1) (c:=9) (λx=>by unfold wtT; omega) i.wit
 unfold wtIN wtIS wtPG szIN szIS szPG
 rw [sum_32']
 omega
theorem linTR (t:MTr):wtTR t≤332*szTR t+100:=by
 have a:=sum_lin linIN t.ins
 have b:=sum_lin linOU t.outs
 unfold wtTR szTR
 omega
theorem sum_65 (l:List MSg):(l.map λ_=>65).sum=65*l.length:=by
 induction l with
 | nil=>rfl
 | cons o l ih=>rw [List.map_cons,List.sum_cons,ih,List.length_cons]; omega
theorem linBL (b:MBl):wtBL b≤432*szBL b+300:=by
 have a:=sum_lin linTR b.txs
 unfold wtBL szBL wtHE wtPA
 rw [sum_65,sum_32']
 omega
end Wr
end
section
namespace Wr
open Go.RowKit Sy
set_option maxRecDepth 100000
set_option maxHeartbeats 4000000
theorem BytR.take {C:Rdr} {A:Option Addr} {n cp k:Nat} {b:Byt} (h:BytR C (.slice A n cp) b) (hk:k≤b.length):BytR C (.slice A k cp) (b.take k):=by
 obtain ⟨A',n',cp',e,h2,h3,h4,h5⟩:=h
 injection e with e1 e2 e3
 subst e1 e2 e3
 refine ⟨_,_,_,rfl,by rw [List.length_take]; omega,by omega,h4,λhne=>?_⟩
 obtain ⟨g,o,rfl,hq⟩:=h5 (by intro e; rw [e,List.take_nil] at hne; exact hne rfl)
 exact ⟨g,o,rfl,λj u hj=>hq j u (by rw [List.getElem?_take] at hj; split at hj; exact hj; cases hj)⟩
theorem exec_cut {P:Program} {F:Slots} {o:Oper} (t:TypeId) (x hx':Operand) (A:Option Addr) (len cap hi s:Nat) (ho:o.op=.slice t x none (some hx') none) (hx:evF F x=.slice A len cap) (hh:evF F hx'=.int .i64 (hi:Int)) (ht:P.underlying t=some (.slice (P.elem t))) (hsz:∀ w,(sizeOf (P.elem t)).run P w=.ok s w) (hA:∃ g f,A=some ⟨g,f,none⟩) (h1:hi≤cap) (w:World) :
  (execOp (evF F) o).run P w=.ok (.value (.slice A hi cap)) w:=by
 obtain ⟨g,f,rfl⟩:=hA
 exact Sy.exec_upto t x hx' g f len cap hi s .i64 ho hx hh ht hsz h1 w
theorem len_L {α:Type} {enc:α→Byt} {wt:α→Nat} {l:List α} (h:∀ x∈l,(enc x).length≤wt x):(encL enc l).length≤9+(l.map wt).sum:=by
 have b:=varB_len l.length
 have e:(l.flatMap enc).length≤(l.map wt).sum:=by
  clear b
  induction l with
  | nil=>exact Nat.le_refl 0
  | cons x l ih =>
   have a:=h x (List.mem_cons_self ..)
   have c:=ih (λy hy=>h y (List.mem_cons_of_mem _ hy))
   rw [List.flatMap_cons,List.length_append,List.map_cons,List.sum_cons]
   omega
 unfold encL
 rw [List.length_append]
 omega
theorem len_T (x:Byt):(encT x).length≤9+x.length:=by unfold encT; rw [List.length_append]; have:=varB_len x.length; omega
theorem len_TG {t:MTag} (h:domTG t):(encTG t).length≤34:=by
 have h:=h.1
 unfold encTG
 rw [List.length_append]
 show 1+_≤34
 split
 ·rw [encPT_len]; omega
 ·omega
theorem len_AM (t:MAmt):(encAM t).length≤34:=by
 unfold encAM
 rw [List.length_append]
 show 1+_≤34
 split
 ·rw [encPT_len]; omega
 ·rw [nb_len]; omega
theorem len_OU {o:MOu} (h:domOU o):(encOU o).length≤wtOU o:=by
 obtain ⟨_,h1,h2,_⟩:=h
 have a:=len_TG h1
 have b:=len_AM o.amount
 have c:=len_T o.range
 have d:=len_T o.surject
 have e:=len_T o.note
 have f:=len_T o.script
 unfold encOU wtOU
 simp only [List.length_append,List.length_cons,List.length_nil]
 omega
theorem len_SC (n:Nat):(encSC n).length=32:=bytesS_length _
theorem len_IS {i:MIs} (h:domIS i):(encIS i).length≤wtIS i:=by
 obtain ⟨_,_,_,h4,_⟩:=h
 have b:=len_AM i.amount
 have c:=len_T i.range
 unfold encIS wtIS
 rw [List.length_append]
 show 1+_≤_
 split
 ·show 1+0≤_; omega
 ·unfold bodyIS
  simp only [List.length_append,nb_len,len_SC,h4]
  omega
theorem len_PG {p:MPg} (h:domPG p):(encPG p).length≤wtPG p:=by
 obtain ⟨h1,_,_,_,h5,_⟩:=h
 have b:=len_T p.tx
 have c:=len_T p.script
 have d:=len_L (enc:=λd:Byt=>d) (wt:=λ_=>32) (l:=p.path) (λx hx=>Nat.le_of_eq (h5.2 x hx))
 unfold encPG wtPG
 simp only [List.length_append,nb_len,h1]
 omega
theorem len_IN {i:MIn} (h:domIN i):(encIN i).length≤wtIN i:=by
 obtain ⟨h1,_,h3,h4,_⟩:=h
 have a:=len_IS h3
 have b:=len_PG h4
 have c:=len_L (enc:=encT) (wt:=wtT) (l:=i.wit) (λx _=>len_T x)
 have e:(if i.kind=2 then encPG i.peg else []).length≤wtPG i.peg:=by
  split
  ·exact b
  ·exact Nat.zero_le _
 unfold encIN wtIN
 simp only [List.length_append,List.length_cons,List.length_nil,nb_len,h1]
 omega
theorem len_TR {t:MTr} (h:domTR t):(encTR t).length≤wtTR t:=by
 obtain ⟨_,h2,h3⟩:=h
 have a:=len_L (enc:=encIN) (wt:=wtIN) (l:=t.ins) (λx hx=>len_IN (h2.2 x hx))
 have b:=len_L (enc:=encOU) (wt:=wtOU) (l:=t.outs) (λx hx=>len_OU (h3.2 x hx))
 unfold encTR wtTR
 simp only [List.length_append,nb_len]
 omega
theorem len_PA {p:MPa} (h:domPA p):(encPA p).length≤wtPA p:=by
 have d:=len_L (enc:=λd:Byt=>d) (wt:=λ_=>32) (l:=p.keys) (λx hx=>Nat.le_of_eq (h.2.2 x hx))
 unfold encPA wtPA
 simp only [List.length_append,List.length_cons,List.length_nil]
 omega
theorem len_HE {h:MHe} (hd:domHE h):(encHE h).length≤wtHE h:=by
 obtain ⟨h1,_,_,h4,h5,_,h7⟩:=hd
 have a:=len_PA h7
 have b:=varB_len h.reward.length
 have e:(if h.change=true then encPA h.next else []).length≤wtPA h.next:=by
  split
  ·exact a
  ·exact Nat.zero_le _
 unfold encHE wtHE
 simp only [List.length_append,List.length_cons,List.length_nil,nb_len,h1,h4,h5]
 omega
theorem len_BL {b:MBl} (h:domBL b):(encBL b).length≤wtBL b:=by
 obtain ⟨h1,h2,h3⟩:=h
 have a:=len_HE h1
 have c:=len_L (enc:=encSG) (wt:=λ_=>65) (l:=b.sigs) (λx hx=>by unfold encSG; rw [List.length_append,(h2.2 x hx).2]; exact Nat.le_refl _)
 have d:=len_L (enc:=encTR) (wt:=wtTR) (l:=b.txs) (λx hx=>len_TR (h3.2 x hx))
 unfold encBL wtBL
 simp only [List.length_append]
 omega
theorem law_wirecut (w:World) (cs:List Value) (t:MTr) (hx:repTR (rdW w) cs t) (kc:List Value) (k:MBl) (hk:repBL (rdW w) kc k) (cut:Int) (hst:szTR t≤1048576) (hsk:szBL k≤1048576) :
  Calls Tryz.prog 6 #[.agg cs.toArray,.agg kc.toArray,.int .i64 cut] w (Gets w (.bool true)):=by
 have lc:=lenTR hx
 have lk:=lenBL hk
 have dT:=domTR_of hx
 have dK:=domBL_of hk
 have wT:=linTR t
 have wK:=linBL k
 obtain ⟨s1,hs1⟩:∃ s,s=okTR t:=⟨_,rfl⟩
 obtain ⟨s2,hs2⟩:∃ s,s=okBL k:=⟨_,rfl⟩
 obtain ⟨b1,hb1⟩:∃ b,b=byE s1 (encTR t):=⟨_,rfl⟩
 obtain ⟨b2,hb2⟩:∃ b,b=byE s2 (encBL k):=⟨_,rfl⟩
 have more1:s1=true→allP rdTR (b1++[0])=none:=λh=>by
  rw [hb1,h]; exact fitTR.more (by rw [← hs1]; exact h) dT 0 []
 have cut1:s1=true→∀ n,n<b1.length→allP rdTR (b1.take n)=none:=λh n hn=>by
  rw [hb1,h] at hn ⊢; exact fitTR.cut (by rw [← hs1]; exact h) dT hn
 have cut2:s2=true→∀ n,n<b2.length→allP rdBL (b2.take n)=none:=λh n hn=>by
  rw [hb2,h] at hn ⊢; exact fitBL.cut (by rw [← hs2]; exact h) dK hn
 have len1:b1.length≤1000000000:=by
  have q:=len_TR dT
  rw [hb1]
  cases s1
  ·exact Nat.zero_le _
  ·show (encTR t).length≤_; omega
 have len2:b2.length≤1000000000:=by
  have q:=len_BL dK
  rw [hb2]
  cases s2
  ·exact Nat.zero_le _
  ·show (encBL k).length≤_; omega
 refine Sy.enter (args:=[.agg cs.toArray,.agg kc.toArray,.int .i64 cut]) Tryz.func6 rfl kL ?_
 refine sC ?_
 refine sM 26 cs.toArray (λg3=>?_) kR (λw=>run_boxR rfl rfl (by kernel_rfl) lc w)
 refine sM 46 kc.toArray (λg4=>?_) kR (λw=>run_boxR rfl rfl (by kernel_rfl) lk w)
 refine sP (.bool false) ?_
 refine sA ?_
 refine sS (.agg cs.toArray) (Quiet.mid 0 g3 0 3 26 26 cs cs _ _ rfl kR rfl Tryz.underlying26 rfl kR (by rw [List.drop_zero,List.take_of_length_le (by omega)]) (by omega)) ?_
 refine Sy.callN kR 7 #[.agg cs.toArray] kF (BytE (okTR t) (encTR t)) (λw' hw=>ex_txx (rep:=repTR) (ok:=okTR) (enc:=encTR) (wt:=wtTR) monoTR tx_w w' cs t (monoTR (λg o u hu=>rdC_world (w0:=Base.of w) (R:=[]) hw (λ_ h=>by cases h) g o u (.inl hu)) hx) lc (by omega)) (λu M1 hM=>?_)
 obtain ⟨u1,rfl,k1⟩:=hM.uni
 rw [← hs1]
 rw [← hs1, ← hb1] at k1
 refine sp rfl<|sp rfl<|sp rfl<|sp rfl<|sp rfl ?_
 refine sA ?_
 refine sS (.agg kc.toArray) (Quiet.mid 1 g4 0 104 46 46 kc kc _ _ rfl kR rfl Tryz.underlying46 rfl kR (by rw [List.drop_zero,List.take_of_length_le (by omega)]) (by omega)) ?_
 refine Sy.callN kR 13 #[.agg kc.toArray] kF (BytE (okBL k) (encBL k)) (λw' hw=>ex_blk (rep:=repBL) (ok:=okBL) (enc:=encBL) (wt:=wtBL) monoBL block_w w' kc k (monoBL (λg o u hu=>rdC_world (w0:=Base.of w) (R:=[]) hw (λ_ h=>by cases h) g o u (.inl hu)) hk) lk (by omega)) (λu M2 hM=>?_)
 obtain ⟨u2,rfl,k2⟩:=hM.uni
 rw [← hs2]
 rw [← hs2, ← hb2] at k2
 refine sp rfl<|sp rfl<|sp rfl<|sp rfl<|sp rfl ?_
 clear hx hk hb1 hb2 hs1 hs2 dT dK
 have k10:=k1
 have k20:=k2
 obtain ⟨A1,n1,c1,rfl,m1,m2,m3,m4⟩:=k1
 obtain ⟨A2,n2,c2,rfl,p1,p2,p3,p4⟩:=k2
 refine sG<|Sy.seq ?_
 refine cutC [(2,.int .i64 cut),(7,.slice A1 n1 c1),(8,.int .i64 (erE s1)),(9,.slice A2 n2 c2),(10,.int .i64 (erE s2))] (M1++M2) ?_ ?_
 ·refine sC ?_
  cases s1
  ·refine sp rfl<|sP (.bool false) ?_
   refine sG<|sU<|Sy.skip ?_
   exact meet (all_cons kR (all_cons kR (all_cons kR (all_cons kR (all_cons kR all_nil))))) (λ_ h=>h.less ((List.sublist_append_right [_,_] M1).append (List.Sublist.refl M2)))
  ·obtain ⟨X,hX⟩:∃ X,X=[(g3,26,cs.toArray),(g4,46,kc.toArray)]++M1++M2:=⟨_,rfl⟩
   refine sp rfl<|sP (.bool true) ?_
   refine sG<|sT<|sC ?_
   refine sp rfl ?_
   refine Sy.permS (M:=[]++(nilS.bl++X)) (List.Perm.of_eq (by rw [hX]; rfl)) ?_
   refine Sy.appendM (pre:=[]) (r:=nilS) (T:=X) kR 27 5 _ _ 1 1 Tryz.underlying27 Cu.info_u8 rfl rfl rfl rfl (by decide) _ _ rfl BS.nil kR (byL_one b1) (byL_oneC b1) A1 n1 c1 (by rw [byL_len,m1]) m2 kR (λr=>BytR.from (w0:=Base.of w) (R:=M1) (k10.le rdB_base) (λy hy=>List.mem_append_right _ (List.mem_append_right _ (by rw [hX]; exact List.mem_append_left _ (List.mem_append_right _ hy))))) (by show (0+n1)*1≤_; omega) (by show 0+n1≤_; simp only [maxLen]; omega) (λr hr=>?_)
   have hr0:BS r b1:=by have q:r.Is 5 1 (byL b1):=hr; exact q
   refine Sy.make kR 5 #[bv 0] (λg=>.slice (some ⟨g,0,none⟩) 1 1) kF (λg5=>?_)
   refine Sy.permS (M:=[(g5,5,[bv 0].toArray)]++(r.bl++X)) List.perm_append_comm ?_
   refine Sy.appendR (pre:=[(g5,5,[bv 0].toArray)]) (T:=X) kR 27 5 _ _ 1 1 Tryz.underlying27 Cu.info_u8 rfl rfl rfl rfl (by decide) _ _ rfl hr0 kR [bv 0] rfl (λu hu=>by rw [List.mem_singleton.1 hu]; rfl) 0 g5 5 kR rfl (by rw [byL_len,m1]; omega) (by rw [byL_len,m1]; simp only [maxLen]; omega) (λr' hr'=>?_)
   have hr2:BS r' (b1++[0]):=by show r'.Is 5 1 (byL (b1++[0])); rw [byL_app]; exact hr'
   refine Sy.callN kR 9 #[r'.v] kF (RdE 3 ([Value.int .u64 0]++([Value.slice none 0 0]++([Value.slice none 0 0]))) repTR none) (λw' hw=>by have q:=rdx_txx (rep:=repTR) (p:=rdTR) monoTR (@oneTR) tx_r w' (r'.v) (b1++[0]) (hr2.as.byt.le (rdB_world hw (λb hb=>List.mem_append_right _ (List.mem_append_left _ hb)))) (by rw [List.length_append]; show b1.length+1≤_; omega); rw [more1 rfl] at q; exact q) (λu Mq hM=>?_)
   obtain ⟨cq,rfl,lq,rq⟩:=hM.uni zoTR (zoTR_rep _) rfl
   refine sp rfl<|sp rfl<|sp rfl ?_
   refine sM 26 ([Value.int .u64 0]++([Value.slice none 0 0]++([Value.slice none 0 0]))).toArray (λgq=>?_)
   refine Sy.permS List.perm_append_comm ?_
   refine sw 0 rfl cq.toArray (Writes.row 26 cq 3 _ _ rfl kR kR kR lq (by kernel_rfl) (oneTR rq))<|sp rfl ?_
   refine sA ?_
   refine sp rfl<|sP (.bool false) ?_
   refine sG<|sU<|Sy.skip ?_
   exact meet (all_cons kR (all_cons kR (all_cons kR (all_cons kR (all_cons kR all_nil))))) (λ_ h=>Sy.St.parts (ls:=[[(gq,26,cq.toArray)],[(g5,5,[bv 0].toArray)],r'.bl,[(g3,26,cs.toArray),(g4,46,kc.toArray)],M1,M2,Mq]) (ms:=[M1,M2]) [[(gq,26,cq.toArray)],[(g5,5,[bv 0].toArray)],r'.bl,[(g3,26,cs.toArray),(g4,46,kc.toArray)],Mq] [4,5,0,1,2,3,6] (by kernel_rfl) (by rfl) (by rw [hX]; simp) (by simp) h)
 refine Sy.then_<|Sy.seq ?_
 refine cutC [(2,.int .i64 cut),(7,.slice A1 n1 c1),(8,.int .i64 (erE s1)),(9,.slice A2 n2 c2),(10,.int .i64 (erE s2))] M2 ?_ ?_
 ·refine sC ?_
  cases s1
  ·refine sp rfl<|sP (.bool false)<|sp rfl<|sN<|sN<|sP (.bool false)<|sp rfl<|sN<|sN<|sN<|sN<|sP (.bool false) ?_
   refine sG<|sU<|Sy.skip ?_
   exact meet (all_cons kR (all_cons kR (all_cons kR (all_cons kR (all_cons kR all_nil))))) (λ_ h=>h.less (List.sublist_append_right _ _))
  obtain ⟨b3,hb3⟩:∃ z:Bool,z=decide (0≤cut):=⟨_,rfl⟩
  refine sp rfl<|sP (.bool true)<|sp rfl<|sp rfl<|sS (.bool b3) (Quiet.pure (exec_int .geq _ _ _ .i64 _ _ _ rfl rfl rfl (int_geq _ _ _ _ _ (by rw [hb3]))))<|sP (.bool b3)<|sp rfl ?_
  cases b3
  ·refine sN<|sN<|sN<|sN<|sP (.bool false) ?_
   refine sG<|sU<|Sy.skip ?_
   exact meet (all_cons kR (all_cons kR (all_cons kR (all_cons kR (all_cons kR all_nil))))) (λ_ h=>h.less (List.sublist_append_right _ _))
  obtain ⟨b4,hb4⟩:∃ z:Bool,z=decide (cut<(n1:Int)):=⟨_,rfl⟩
  refine sp rfl<|sp rfl<|sP (.int .i64 (n1:Int))<|sS (.bool b4) (Quiet.pure (exec_int .lss _ _ _ .i64 _ _ _ rfl rfl rfl (int_lss _ _ _ _ _ (by rw [hb4]))))<|sP (.bool b4) ?_
  cases b4
  ·refine sG<|sU<|Sy.skip ?_
   exact meet (all_cons kR (all_cons kR (all_cons kR (all_cons kR (all_cons kR all_nil))))) (λ_ h=>h.less (List.sublist_append_right _ _))
  have l3:0≤cut:=of_decide_eq_true hb3.symm
  have l4:cut<(n1:Int):=of_decide_eq_true hb4.symm
  obtain ⟨c,hc⟩:∃ c:Nat,cut=(c:Int):=⟨cut.toNat,by omega⟩
  have lc4:c<b1.length:=by omega
  have hA1:∃ g f,A1=some ⟨g,f,none⟩:=by obtain ⟨g,o,e,_⟩:=m4 (by intro e; rw [e] at lc4; cases lc4); exact ⟨g,o,e⟩
  refine sG<|sT<|sC ?_
  refine sp rfl<|sp rfl<|sS (.slice A1 c c1) (Quiet.pure (λw=>exec_cut 27 _ _ A1 n1 c1 c 1 rfl rfl (by rw [← hc]; rfl) kR kF hA1 (by omega) w)) ?_
  refine Sy.callN kR 9 #[.slice A1 c c1] kF (RdE 3 ([Value.int .u64 0]++([Value.slice none 0 0]++([Value.slice none 0 0]))) repTR none) (λw' hw=>by have q:=rdx_txx (rep:=repTR) (p:=rdTR) monoTR (@oneTR) tx_r w' (.slice A1 c c1) (b1.take c) ((k10.take (by omega)).le (rdB_world hw (λb hb=>List.mem_append_left _ hb))) (by rw [List.length_take]; omega); rw [cut1 rfl c (by omega)] at q; exact q) (λu Mq hM=>?_)
  obtain ⟨cq,rfl,lq,rq⟩:=hM.uni zoTR (zoTR_rep _) rfl
  refine sp rfl<|sp rfl<|sp rfl ?_
  refine sM 26 ([Value.int .u64 0]++([Value.slice none 0 0]++([Value.slice none 0 0]))).toArray (λgq=>?_)
  refine Sy.permS List.perm_append_comm ?_
  refine sw 0 rfl cq.toArray (Writes.row 26 cq 3 _ _ rfl kR kR kR lq (by kernel_rfl) (oneTR rq))<|sp rfl ?_
  refine sA ?_
  refine sp rfl<|sP (.bool false) ?_
  refine sG<|sU<|Sy.skip ?_
  exact meet (all_cons kR (all_cons kR (all_cons kR (all_cons kR (all_cons kR all_nil))))) (λ_ h=>Sy.St.parts (ls:=[[(gq,26,cq.toArray)],M1,M2,Mq]) (ms:=[M2]) [[(gq,26,cq.toArray)],M1,Mq] [2,0,1,3] (by kernel_rfl) (by rfl) (by simp) (by simp) h)
 refine Sy.then_<|Sy.seq<|sC ?_
 cases s2
 ·refine sp rfl<|sP (.bool false)<|sp rfl<|sN<|sN<|sP (.bool false)<|sp rfl<|sN<|sN<|sN<|sN<|sP (.bool false) ?_
  refine sG<|sU<|Sy.skip<|sB ?_
  refine sS (.bool true) (qg (λw' hw=>alive12 w'))<|sp rfl ?_
  refine sG<|Sy.ret ?_
  exact rV (.bool true) rfl
 obtain ⟨b3,hb3⟩:∃ z:Bool,z=decide (0≤cut):=⟨_,rfl⟩
 refine sp rfl<|sP (.bool true)<|sp rfl<|sp rfl<|sS (.bool b3) (Quiet.pure (exec_int .geq _ _ _ .i64 _ _ _ rfl rfl rfl (int_geq _ _ _ _ _ (by rw [hb3]))))<|sP (.bool b3)<|sp rfl ?_
 cases b3
 ·refine sN<|sN<|sN<|sN<|sP (.bool false) ?_
  refine sG<|sU<|Sy.skip<|sB ?_
  refine sS (.bool true) (qg (λw' hw=>alive12 w'))<|sp rfl ?_
  refine sG<|Sy.ret ?_
  exact rV (.bool true) rfl
 obtain ⟨b4,hb4⟩:∃ z:Bool,z=decide (cut<(n2:Int)):=⟨_,rfl⟩
 refine sp rfl<|sp rfl<|sP (.int .i64 (n2:Int))<|sS (.bool b4) (Quiet.pure (exec_int .lss _ _ _ .i64 _ _ _ rfl rfl rfl (int_lss _ _ _ _ _ (by rw [hb4]))))<|sP (.bool b4) ?_
 cases b4
 ·refine sG<|sU<|Sy.skip<|sB ?_
  refine sS (.bool true) (qg (λw' hw=>alive12 w'))<|sp rfl ?_
  refine sG<|Sy.ret ?_
  exact rV (.bool true) rfl
 have l3:0≤cut:=of_decide_eq_true hb3.symm
 have l4:cut<(n2:Int):=of_decide_eq_true hb4.symm
 obtain ⟨c,hc⟩:∃ c:Nat,cut=(c:Int):=⟨cut.toNat,by omega⟩
 have lc4:c<b2.length:=by omega
 have hA2:∃ g f,A2=some ⟨g,f,none⟩:=by obtain ⟨g,o,e,_⟩:=p4 (by intro e; rw [e] at lc4; cases lc4); exact ⟨g,o,e⟩
 refine sG<|sT<|sC ?_
 refine sp rfl<|sp rfl<|sS (.slice A2 c c2) (Quiet.pure (λw=>exec_cut 27 _ _ A2 n2 c2 c 1 rfl rfl (by rw [← hc]; rfl) kR kF hA2 (by omega) w)) ?_
 refine Sy.callN kR 15 #[.slice A2 c c2] kF (RdE 104 ((Z32++([Value.int .u64 0]++([Value.int .u64 0]++(Z32++(Z32++([Value.slice none 0 0]++([Value.bool false]++([Value.int .i64 0]++[Value.slice none 0 0]))))))))++([Value.slice none 0 0]++([Value.slice none 0 0]))) repBL none) (λw' hw=>by have q:=rdx_blk (rep:=repBL) (p:=rdBL) monoBL (@oneBL) block_r w' (.slice A2 c c2) (b2.take c) ((k20.take (by omega)).le (rdB_world hw (λb hb=>hb))) (by rw [List.length_take]; omega); rw [cut2 rfl c (by omega)] at q; exact q) (λu Mq hM=>?_)
 obtain ⟨cq,rfl,lq,rq⟩:=hM.uni zoBL (zoBL_rep _) rfl
 refine sp rfl<|sp rfl<|sp rfl ?_
 refine sM 46 ((Z32++([Value.int .u64 0]++([Value.int .u64 0]++(Z32++(Z32++([Value.slice none 0 0]++([Value.bool false]++([Value.int .i64 0]++[Value.slice none 0 0]))))))))++([Value.slice none 0 0]++([Value.slice none 0 0]))).toArray (λgq=>?_)
 refine Sy.permS List.perm_append_comm ?_
 refine sw 0 rfl cq.toArray (Writes.row 46 cq 104 _ _ rfl kR kR kR lq (by kernel_rfl) (oneBL rq))<|sp rfl ?_
 refine sA ?_
 refine sS (.bool true) (qg (λw' hw=>alive12 w'))<|sp rfl<|sp rfl<|sP (.bool true)<|sP (.bool true)<|sp rfl ?_
 refine sG<|Sy.ret<|Sy.then_ret ?_
 exact rV (.bool true) rfl
end Wr
end
end Go.Proofs.YtdbcombmmnihbaaGreat
