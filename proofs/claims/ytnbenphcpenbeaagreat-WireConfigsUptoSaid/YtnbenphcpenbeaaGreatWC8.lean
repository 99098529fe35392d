/-
  Texts of ours, put together: CrvZ, WirDH, WirDI, WirEC, WirDJ, WirDK, WirDL, WirED.
-/
import Derived.Test.YtnbenphcpenbeaaGreatWC7
set_option linter.unusedVariables false
set_option linter.unusedSimpArgs false
namespace Go.Proofs.YtnbenphcpenbeaaGreat
section
namespace Cu
open Go.RowKit Sy
set_option maxRecDepth 100000
set_option maxHeartbeats 4000000
def pwr (x y:Nat) (i:Bool):List Value:=fws x++(fws y++[Value.bool i])
section
variable {P:Program} {w0:Base} {F:Slots} {L:Blocks} {o:Oper}
theorem Quiet.read {v:Value} (h:∀ w,St w0 w L→(execOp (evF F) o).run P w=.ok (.value v) w):Quiet P w0 F L o v:=λw hw=>by
 unfold Gives; rw [h w hw]; exact ⟨rfl,Gr.refl _⟩
end
theorem str_of {w:World} {A:Option Addr} {m:List UInt8} {c:Nat} (h:Src w A m) (hm:m≠[]) :
  (convert 27 9 (.slice A m.length c)).run Tryz.prog w=.ok (.string ⟨m.toArray⟩) w:=by
 obtain ⟨b,o,rfl,_,hc⟩:=h hm
 refine run_convert_bytes_back w 27 9 5 _ c m Tryz.underlying27 Tryz.underlying5 Tryz.underlying9 (λj hj=>?_)
 rw [addr_off]
 exact hc j _ (List.getElem?_eq_getElem hj)
theorem str_src {w0:Base} {F:Slots} {L:Blocks} {o:Oper} (A:Option Addr) (m:List UInt8) (k c:Nat) (x:Operand) (ho:o.op=.convert 27 9 x) (hx:evF F x=.slice A k c) (hm:m.length=k) (hk:k≠0) (hs:Src w0.world A m):Quiet Tryz.prog w0 F L o (.string ⟨m.toArray⟩):=Quiet.read λw hw=>by
 have h:=str_of (c:=c) (hs.below hw.below) (by intro e; rw [e] at hm; exact hk hm.symm)
 rw [hm] at h
 unfold execOp
 simp only [ho,hx,Sem.run_bind,h,Result.andThen_ok,Sem.run_pure]
theorem str_own {w0:Base} {F:Slots} {L:Blocks} {o:Oper} (i g:Nat) (t:TypeId) (m:List UInt8) (sp:List Value) (k c:Nat) (x:Operand) (ho:o.op=.convert 27 9 x) (hx:evF F x=.slice (some ⟨g,0,none⟩) k c) (hL:L[i]? = some (g,t,(m.map bv++sp).toArray)) (hm:m.length=k) (hk:k≠0):Quiet Tryz.prog w0 F L o (.string ⟨m.toArray⟩):=Quiet.read λw hw=>by
 have hb:=hw.get hL
 have hs:Src w (some ⟨g,0,none⟩) m:=λ_=>⟨g,0,rfl,hb.lt,λj u hj=>by
  rw [Nat.zero_add]
  refine (hb.cell j).trans ?_
  have hl:=(List.getElem?_eq_some_iff.1 hj).1
  rw [List.getElem?_toArray,List.getElem?_append_left (by rw [List.length_map]; exact hl),List.getElem?_map,hj]
  rfl⟩
 have h:=str_of (c:=c) hs (by intro e; rw [e] at hm; exact hk hm.symm)
 rw [hm] at h
 unfold execOp
 simp only [ho,hx,Sem.run_bind,h,Result.andThen_ok,Sem.run_pure]
theorem eql_str (w:World) (F:Slots) (o:Oper) (x y:Operand) (a b:List UInt8) {yt:TypeId} (ho:o.op=.binOp .eql 9 x y yt) (hx:evF F x=.string ⟨a.toArray⟩) (hy:evF F y=.string ⟨b.toArray⟩):(execOp (evF F) o).run Tryz.prog w=.ok (.value (.bool (decide (a=b)))) w:=by
 have h1:(eqGuard .eql 9 x y (.string ⟨a.toArray⟩) (.string ⟨b.toArray⟩)).run Tryz.prog w=.ok () w:=by go_simp
 have h2:(binOp .eql 9 (.string ⟨a.toArray⟩) (.string ⟨b.toArray⟩)).run Tryz.prog w=.ok (.bool (decide (a=b))) w:=by
  by_cases e:a=b <;> simp [go_sem,ByteArray.toList_eq,e]
 unfold execOp
 simp only [ho,hx,hy,Sem.run_bind,h1,h2,Result.andThen_ok,Sem.run_pure]
theorem cand_or (b:UInt8) (t:List UInt8):candS (b::t)=Ec.neg (liftP t)∨candS (b::t)=liftP t:=by
 unfold candS
 split
 ·exact .inl rfl
 ·exact .inr rfl
theorem decR_len (w:World) (A:Option Addr) (n c:Nat) (hn:n≠33):Calls Tryz.prog 228 #[.slice A n c] w (Gets w (.tuple #[pv 0 0 true,.bool false])):=by
 refine Sy.enter (args:=[.slice A n c]) Tryz.func228 rfl kL ?_
 refine sC ?_
 refine sM 65 (pcs 0 0 false) (λg0=>?_)
 refine sP (.bool false) ?_
 refine sG<|Sy.seq<|sC ?_
 refine sP (.slice A n c)<|sP (.int .i64 (n:Int))<|sS (.bool true) (Quiet.pure (λw=>neq_len w _ _ _ _ n hn rfl rfl rfl)) ?_
 refine sG<|sT<|sC ?_
 refine sS (pv 0 0 true) (qF 248 #[] (zeroR_c))<|sW 0 g0 65 (pcs 0 0 false) (pcs 0 0 true) (wS 0 65 (pcs 0 0 true) rfl)<|sP (.bool false) ?_
 refine sG<|Sy.ret<|Sy.then_ret ?_
 exact Sy.ret2 (v:=pv 0 0 true) (u:=.bool false) rfl (.inl (Res.cell (ty':=65) g0 0 (pcs 0 0 true) _ kR kR Tryz.underlying65 rfl kR kR)) (.inl (show _=_ by kernel_rfl))
theorem decR_33 (w:World) (ga oa cb:Nat) (o0 o1 o2 o3 o4 o5 o6 o7 o8 o9 o10 o11 o12 o13 o14 o15 o16 o17 o18 o19 o20 o21 o22 o23 o24 o25 o26 o27 o28 o29 o30 o31 o32:UInt8) (hs:SrcL w ga oa (o0::o1::o2::[o3,o4,o5,o6,o7,o8,o9,o10,o11,o12,o13,o14,o15,o16,o17,o18,o19,o20,o21,o22,o23,o24,o25,o26,o27,o28,o29,o30,o31,o32])) (hsr:Src w (some ⟨ga,oa,none⟩) (o0::o1::o2::[o3,o4,o5,o6,o7,o8,o9,o10,o11,o12,o13,o14,o15,o16,o17,o18,o19,o20,o21,o22,o23,o24,o25,o26,o27,o28,o29,o30,o31,o32])) (hcap:33≤cb):Calls Tryz.prog 228 #[.slice (some ⟨ga,oa,none⟩) 33 cb] w (Gets w (.tuple #[ptv (decP (o0::o1::o2::[o3,o4,o5,o6,o7,o8,o9,o10,o11,o12,o13,o14,o15,o16,o17,o18,o19,o20,o21,o22,o23,o24,o25,o26,o27,o28,o29,o30,o31,o32])),.bool (decOk (o0::o1::o2::[o3,o4,o5,o6,o7,o8,o9,o10,o11,o12,o13,o14,o15,o16,o17,o18,o19,o20,o21,o22,o23,o24,o25,o26,o27,o28,o29,o30,o31,o32]))])):=by
 have hl:List.length ((o1::o2::[o3,o4,o5,o6,o7,o8,o9,o10,o11,o12,o13,o14,o15,o16,o17,o18,o19,o20,o21,o22,o23,o24,o25,o26,o27,o28,o29,o30,o31,o32]):List UInt8)=32:=rfl
 obtain ⟨tl,htl⟩:∃ t:List UInt8,t=(o1::o2::[o3,o4,o5,o6,o7,o8,o9,o10,o11,o12,o13,o14,o15,o16,o17,o18,o19,o20,o21,o22,o23,o24,o25,o26,o27,o28,o29,o30,o31,o32]):=⟨_,rfl⟩
 obtain ⟨px,py,pi,lpx,lpy,ep,dp,rp⟩:=ptv_raw (liftP tl) (liftP_on tl)
 obtain ⟨nx,ny,ni,lnx,lny,en,dn,rn⟩:=ptv_raw (Ec.neg (liftP tl)) (Ec.On.neg (liftP_on tl))
 obtain ⟨kb,hkb⟩:∃ k,k=liftB tl:=⟨_,rfl⟩
 have cL:∀ w,Calls Tryz.prog 254 #[.agg ((o1::o2::[o3,o4,o5,o6,o7,o8,o9,o10,o11,o12,o13,o14,o15,o16,o17,o18,o19,o20,o21,o22,o23,o24,o25,o26,o27,o28,o29,o30,o31,o32]).map bv).toArray] w (Gets w (.tuple #[pv px py pi,.bool kb])):=λw=>by
  have h:=liftR_any w _ hl
  rw [← htl,ep, ← hkb] at h
  rw [← htl]
  exact h
 have cN:∀ w,Calls Tryz.prog 255 #[pv px py pi] w (Gets w (pv nx ny ni)):=λw=>by
  have h:=negRe_any w px py pi lpx lpy
  rw [dp,en] at h
  exact h
 have cE0:∀ w,Calls Tryz.prog 223 #[pv 0 0 true] w (GetsN w (λvq Mq=>∃ (g:Nat) (sp:List Value) (cap:Nat),vq=.slice (some ⟨g,0,none⟩) 33 cap∧Mq=[(g,5,((encS none).map bv++sp).toArray)])):=λw=>by
  have h:=encR_any w 0 0 true (by decide) (by decide)
  rw [dec_zero] at h
  exact h
 have cE1:∀ w,Calls Tryz.prog 223 #[pv px py pi] w (GetsN w (λvq Mq=>∃ (g:Nat) (sp:List Value) (cap:Nat),vq=.slice (some ⟨g,0,none⟩) 33 cap∧Mq=[(g,5,((encS (liftP tl)).map bv++sp).toArray)])):=λw=>by
  have h:=encR_any w px py pi lpx lpy
  rw [dp] at h
  exact h
 have cE2:∀ w,Calls Tryz.prog 223 #[pv nx ny ni] w (GetsN w (λvq Mq=>∃ (g:Nat) (sp:List Value) (cap:Nat),vq=.slice (some ⟨g,0,none⟩) 33 cap∧Mq=[(g,5,((encS (Ec.neg (liftP tl))).map bv++sp).toArray)])):=λw=>by
  have h:=encR_any w nx ny ni lnx lny
  rw [dn] at h
  exact h
 refine Sy.enter (args:=[.slice (some ⟨ga,oa,none⟩) 33 cb]) Tryz.func228 rfl kL ?_
 refine sC ?_
 refine sM 65 (pcs 0 0 false) (λg0=>?_)
 refine sP (.bool false) ?_
 refine sG<|Sy.seq<|sC ?_
 refine sP (.slice (some ⟨ga,oa,none⟩) 33 cb)<|sP (.int .i64 33)<|sP (.bool false) ?_
 refine sG<|sU<|Sy.skip<|sB ?_
 refine sM 220 (Zl 32).toArray (λg1=>?_)
 refine sG<|Sy.seq<|sC ?_
 refine sP (.int .i64 0) ?_
 refine sG<|Sy.block ?_
 refine Sy.loopN 33 ?_
 refine Sy.tidyR (G:=[(0,.slice (some ⟨ga,oa,none⟩) 33 cb),(2,.pointer (some ⟨g0,0,none⟩)),(4,.pointer (some ⟨g1,0,none⟩)),(5,.int .i64 0)]) (M:=[(g0,65,(pcs 0 0 false)),(g1,220,(Zl 32).toArray)]) [true,true] kR (all_cons kR (all_cons kR (all_cons kR (all_cons kR all_nil)))) ?_
 refine Sy.round<|Sy.seq<|sC ?_
 refine sP (.int .i64 0)<|sP (.bool true) ?_
 refine sG<|sT<|Sy.skip<|Sy.then_<|Sy.seq<|Sy.block<|Sy.region ?_
 refine sP (.int .i64 0)<|sP (.slice (some ⟨ga,oa,none⟩) 33 cb)<|sP (.int .i64 0)<|sP (.int .i64 1)<|sS (.pointer (some ⟨ga,oa+1,none⟩)) (Quiet.pure (λw=>exec_index 27 _ _ ga (oa) 33 (cb) 1 rfl kR kR kR kF (by decide) w))<|sS (bv o1) (Quiet.thereOne ga (oa+1) 5 _ _ rfl kR hs.1 _ (src_one hs 1 _ kR) Tryz.underlying5 rfl)<|sP (.pointer (some ⟨g1,0,none⟩))<|sW 1 g1 220 (Zl 32).toArray (bv o1::.int .u8 0::Zl 30).toArray (wO 0 5 (bv o1) rfl) ?_
 refine Sy.nil<|Sy.in_<|Sy.then_<|Sy.region ?_
 refine sP (.int .i64 0)<|sP (.int .i64 1)<|sP (.int .i64 1) ?_
 refine Sy.nil<|Sy.again ?_
 refine Sy.tidyR (G:=[(0,.slice (some ⟨ga,oa,none⟩) 33 cb),(2,.pointer (some ⟨g0,0,none⟩)),(4,.pointer (some ⟨g1,0,none⟩)),(5,.int .i64 1)]) (M:=[(g0,65,(pcs 0 0 false)),(g1,220,(bv o1::.int .u8 0::Zl 30).toArray)]) [true,true] kR (all_cons kR (all_cons kR (all_cons kR (all_cons kR all_nil)))) ?_
 refine Sy.round<|Sy.seq<|sC ?_
 refine sP (.int .i64 1)<|sP (.bool true) ?_
 refine sG<|sT<|Sy.skip<|Sy.then_<|Sy.seq<|Sy.block<|Sy.region ?_
 refine sP (.int .i64 1)<|sP (.slice (some ⟨ga,oa,none⟩) 33 cb)<|sP (.int .i64 1)<|sP (.int .i64 2)<|sS (.pointer (some ⟨ga,oa+2,none⟩)) (Quiet.pure (λw=>exec_index 27 _ _ ga (oa) 33 (cb) 2 rfl kR kR kR kF (by decide) w))<|sS (bv o2) (Quiet.thereOne ga (oa+2) 5 _ _ rfl kR hs.1 _ (src_one hs 2 _ kR) Tryz.underlying5 rfl)<|sP (.pointer (some ⟨g1,1,none⟩))<|sW 1 g1 220 (bv o1::.int .u8 0::Zl 30).toArray (bv o1::bv o2::Zl 30).toArray (wO 1 5 (bv o2) rfl) ?_
 refine Sy.nil<|Sy.in_<|Sy.then_<|Sy.region ?_
 refine sP (.int .i64 1)<|sP (.int .i64 2)<|sP (.int .i64 2) ?_
 refine Sy.nil<|Sy.again ?_
 refine Sy.tidyR (G:=[(0,.slice (some ⟨ga,oa,none⟩) 33 cb),(2,.pointer (some ⟨g0,0,none⟩)),(4,.pointer (some ⟨g1,0,none⟩)),(5,.int .i64 2)]) (M:=[(g0,65,(pcs 0 0 false)),(g1,220,(bv o1::bv o2::Zl 30).toArray)]) [true,true] kR (all_cons kR (all_cons kR (all_cons kR (all_cons kR all_nil)))) ?_
 refine Sy.round<|Sy.seq<|sC ?_
 refine sP (.int .i64 2)<|sP (.bool true) ?_
 refine sG<|sT<|Sy.skip<|Sy.then_<|Sy.seq<|Sy.block<|Sy.region ?_
 refine sP (.int .i64 2)<|sP (.slice (some ⟨ga,oa,none⟩) 33 cb)<|sP (.int .i64 2)<|sP (.int .i64 3)<|sS (.pointer (some ⟨ga,oa+3,none⟩)) (Quiet.pure (λw=>exec_index 27 _ _ ga (oa) 33 (cb) 3 rfl kR kR kR kF (by decide) w))<|sS (bv o3) (Quiet.thereOne ga (oa+3) 5 _ _ rfl kR hs.1 _ (src_one hs 3 _ kR) Tryz.underlying5 rfl)<|sP (.pointer (some ⟨g1,2,none⟩))<|sW 1 g1 220 (bv o1::bv o2::Zl 30).toArray (bv o1::bv o2::[bv o3,.int .u8 0,.int .u8 0,.int .u8 0,.int .u8 0,.int .u8 0,.int .u8 0,.int .u8 0,.int .u8 0,.int .u8 0,.int .u8 0,.int .u8 0,.int .u8 0,.int .u8 0,.int .u8 0,.int .u8 0,.int .u8 0,.int .u8 0,.int .u8 0,.int .u8 0,.int .u8 0,.int .u8 0,.int .u8 0,.int .u8 0,.int .u8 0,.int .u8 0,.int .u8 0,.int .u8 0,.int .u8 0,.int .u8 0]).toArray (wO 2 5 (bv o3) rfl) ?_
 refine Sy.nil<|Sy.in_<|Sy.then_<|Sy.region ?_
 refine sP (.int .i64 2)<|sP (.int .i64 3)<|sP (.int .i64 3) ?_
 refine Sy.nil<|Sy.again ?_
 refine Sy.tidyR (G:=[(0,.slice (some ⟨ga,oa,none⟩) 33 cb),(2,.pointer (some ⟨g0,0,none⟩)),(4,.pointer (some ⟨g1,0,none⟩)),(5,.int .i64 3)]) (M:=[(g0,65,(pcs 0 0 false)),(g1,220,(bv o1::bv o2::[bv o3,.int .u8 0,.int .u8 0,.int .u8 0,.int .u8 0,.int .u8 0,.int .u8 0,.int .u8 0,.int .u8 0,.int .u8 0,.int .u8 0,.int .u8 0,.int .u8 0,.int .u8 0,.int .u8 0,.int .u8 0,.int .u8 0,.int .u8 0,.int .u8 0,.int .u8 0,.int .u8 0,.int .u8 0,.int .u8 0,.int .u8 0,.int .u8 0,.int .u8 0,.int .u8 0,.int .u8 0,.int .u8 0,.int .u8 0]).toArray)]) [true,true] kR (all_cons kR (all_cons kR (all_cons kR (all_cons kR all_nil)))) ?_
 refine Sy.round<|Sy.seq<|sC ?_
 refine sP (.int .i64 3)<|sP (.bool true) ?_
 refine sG<|sT<|Sy.skip<|Sy.then_<|Sy.seq<|Sy.block<|Sy.region ?_
 refine sP (.int .i64 3)<|sP (.slice (some ⟨ga,oa,none⟩) 33 cb)<|sP (.int .i64 3)<|sP (.int .i64 4)<|sS (.pointer (some ⟨ga,oa+4,none⟩)) (Quiet.pure (λw=>exec_index 27 _ _ ga (oa) 33 (cb) 4 rfl kR kR kR kF (by decide) w))<|sS (bv o4) (Quiet.thereOne ga (oa+4) 5 _ _ rfl kR hs.1 _ (src_one hs 4 _ kR) Tryz.underlying5 rfl)<|sP (.pointer (some ⟨g1,3,none⟩))<|sW 1 g1 220 (bv o1::bv o2::[bv o3,.int .u8 0,.int .u8 0,.int .u8 0,.int .u8 0,.int .u8 0,.int .u8 0,.int .u8 0,.int .u8 0,.int .u8 0,.int .u8 0,.int .u8 0,.int .u8 0,.int .u8 0,.int .u8 0,.int .u8 0,.int .u8 0,.int .u8 0,.int .u8 0,.int .u8 0,.int .u8 0,.int .u8 0,.int .u8 0,.int .u8 0,.int .u8 0,.int .u8 0,.int .u8 0,.int .u8 0,.int .u8 0,.int .u8 0]).toArray (bv o1::bv o2::[bv o3,bv o4,.int .u8 0,.int .u8 0,.int .u8 0,.int .u8 0,.int .u8 0,.int .u8 0,.int .u8 0,.int .u8 0,.int .u8 0,.int .u8 0,.int .u8 0,.int .u8 0,.int .u8 0,.int .u8 0,.int .u8 0,.int .u8 0,.int .u8 0,.int .u8 0,.int .u8 0,.int .u8 0,.int .u8 0,.int .u8 0,.int .u8 0,.int .u8 0,.int .u8 0,.int .u8 0,.int .u8 0,.int .u8 0]).toArray (wO 3 5 (bv o4) rfl) ?_
 refine Sy.nil<|Sy.in_<|Sy.then_<|Sy.region ?_
 refine sP (.int .i64 3)<|sP (.int .i64 4)<|sP (.int .i64 4) ?_
 refine Sy.nil<|Sy.again ?_
 refine Sy.tidyR (G:=[(0,.slice (some ⟨ga,oa,none⟩) 33 cb),(2,.pointer (some ⟨g0,0,none⟩)),(4,.pointer (some ⟨g1,0,none⟩)),(5,.int .i64 4)]) (M:=[(g0,65,(pcs 0 0 false)),(g1,220,(bv o1::bv o2::[bv o3,bv o4,.int .u8 0,.int .u8 0,.int .u8 0,.int .u8 0,.int .u8 0,.int .u8 0,.int .u8 0,.int .u8 0,.int .u8 0,.int .u8 0,.int .u8 0,.int .u8 0,.int .u8 0,.int .u8 0,.int .u8 0,.int .u8 0,.int .u8 0,.int .u8 0,.int .u8 0,.int .u8 0,.int .u8 0,.int .u8 0,.int .u8 0,.int .u8 0,.int .u8 0,.int .u8 0,.int .u8 0,.int .u8 0]).toArray)]) [true,true] kR (all_cons kR (all_cons kR (all_cons kR (all_cons kR all_nil)))) ?_
 refine Sy.round<|Sy.seq<|sC ?_
 refine sP (.int .i64 4)<|sP (.bool true) ?_
 refine sG<|sT<|Sy.skip<|Sy.then_<|Sy.seq<|Sy.block<|Sy.region ?_
 refine sP (.int .i64 4)<|sP (.slice (some ⟨ga,oa,none⟩) 33 cb)<|sP (.int .i64 4)<|sP (.int .i64 5)<|sS (.pointer (some ⟨ga,oa+5,none⟩)) (Quiet.pure (λw=>exec_index 27 _ _ ga (oa) 33 (cb) 5 rfl kR kR kR kF (by decide) w))<|sS (bv o5) (Quiet.thereOne ga (oa+5) 5 _ _ rfl kR hs.1 _ (src_one hs 5 _ kR) Tryz.underlying5 rfl)<|sP (.pointer (some ⟨g1,4,none⟩))<|sW 1 g1 220 (bv o1::bv o2::[bv o3,bv o4,.int .u8 0,.int .u8 0,.int .u8 0,.int .u8 0,.int .u8 0,.int .u8 0,.int .u8 0,.int .u8 0,.int .u8 0,.int .u8 0,.int .u8 0,.int .u8 0,.int .u8 0,.int .u8 0,.int .u8 0,.int .u8 0,.int .u8 0,.int .u8 0,.int .u8 0,.int .u8 0,.int .u8 0,.int .u8 0,.int .u8 0,.int .u8 0,.int .u8 0,.int .u8 0,.int .u8 0,.int .u8 0]).toArray (bv o1::bv o2::[bv o3,bv o4,bv o5,.int .u8 0,.int .u8 0,.int .u8 0,.int .u8 0,.int .u8 0,.int .u8 0,.int .u8 0,.int .u8 0,.int .u8 0,.int .u8 0,.int .u8 0,.int .u8 0,.int .u8 0,.int .u8 0,.int .u8 0,.int .u8 0,.int .u8 0,.int .u8 0,.int .u8 0,.int .u8 0,.int .u8 0,.int .u8 0,.int .u8 0,.int .u8 0,.int .u8 0,.int .u8 0,.int .u8 0]).toArray (wO 4 5 (bv o5) rfl) ?_
 refine Sy.nil<|Sy.in_<|Sy.then_<|Sy.region ?_
 refine sP (.int .i64 4)<|sP (.int .i64 5)<|sP (.int .i64 5) ?_
 refine Sy.nil<|Sy.again ?_
 refine Sy.tidyR (G:=[(0,.slice (some ⟨ga,oa,none⟩) 33 cb),(2,.pointer (some ⟨g0,0,none⟩)),(4,.pointer (some ⟨g1,0,none⟩)),(5,.int .i64 5)]) (M:=[(g0,65,(pcs 0 0 false)),(g1,220,(bv o1::bv o2::[bv o3,bv o4,bv o5,.int .u8 0,.int .u8 0,.int .u8 0,.int .u8 0,.int .u8 0,.int .u8 0,.int .u8 0,.int .u8 0,.int .u8 0,.int .u8 0,.int .u8 0,.int .u8 0,.int .u8 0,.int .u8 0,.int .u8 0,.int .u8 0,.int .u8 0,.int .u8 0,.int .u8 0,.int .u8 0,.int .u8 0,.int .u8 0,.int .u8 0,.int .u8 0,.int .u8 0,.int .u8 0,.int .u8 0]).toArray)]) [true,true] kR (all_cons kR (all_cons kR (all_cons kR (all_cons kR all_nil)))) ?_
 refine Sy.round<|Sy.seq<|sC ?_
 refine sP (.int .i64 5)<|sP (.bool true) ?_
 refine sG<|sT<|Sy.skip<|Sy.then_<|Sy.seq<|Sy.block<|Sy.region ?_
 refine sP (.int .i64 5)<|sP (.slice (some ⟨ga,oa,none⟩) 33 cb)<|sP (.int .i64 5)<|sP (.int .i64 6)<|sS (.pointer (some ⟨ga,oa+6,none⟩)) (Quiet.pure (λw=>exec_index 27 _ _ ga (oa) 33 (cb) 6 rfl kR kR kR kF (by decide) w))<|sS (bv o6) (Quiet.thereOne ga (oa+6) 5 _ _ rfl kR hs.1 _ (src_one hs 6 _ kR) Tryz.underlying5 rfl)<|sP (.pointer (some ⟨g1,5,none⟩))<|sW 1 g1 220 (bv o1::bv o2::[bv o3,bv o4,bv o5,.int .u8 0,.int .u8 0,.int .u8 0,.int .u8 0,.int .u8 0,.int .u8 0,.int .u8 0,.int .u8 0,.int .u8 0,.int .u8 0,.int .u8 0,.int .u8 0,.int .u8 0,.int .u8 0,.int .u8 0,.int .u8 0,.int .u8 0,.int .u8 0,.int .u8 0,.int .u8 0,.int .u8 0,.int .u8 0,.int .u8 0,.int .u8 0,.int .u8 0,.int .u8 0,.int .u8 0]).toArray (bv o1::bv o2::[bv o3,bv o4,bv o5,bv o6,.int .u8 0,.int .u8 0,.int .u8 0,.int .u8 0,.int .u8 0,.int .u8 0,.int .u8 0,.int .u8 0,.int .u8 0,.int .u8 0,.int .u8 0,.int .u8 0,.int .u8 0,.int .u8 0,.int .u8 0,.int .u8 0,.int .u8 0,.int .u8 0,.int .u8 0,.int .u8 0,.int .u8 0,.int .u8 0,.int .u8 0,.int .u8 0,.int .u8 0,.int .u8 0]).toArray (wO 5 5 (bv o6) rfl) ?_
 refine Sy.nil<|Sy.in_<|Sy.then_<|Sy.region ?_
 refine sP (.int .i64 5)<|sP (.int .i64 6)<|sP (.int .i64 6) ?_
 refine Sy.nil<|Sy.again ?_
 refine Sy.tidyR (G:=[(0,.slice (some ⟨ga,oa,none⟩) 33 cb),(2,.pointer (some ⟨g0,0,none⟩)),(4,.pointer (some ⟨g1,0,none⟩)),(5,.int .i64 6)]) (M:=[(g0,65,(pcs 0 0 false)),(g1,220,(bv o1::bv o2::[bv o3,bv o4,bv o5,bv o6,.int .u8 0,.int .u8 0,.int .u8 0,.int .u8 0,.int .u8 0,.int .u8 0,.int .u8 0,.int .u8 0,.int .u8 0,.int .u8 0,.int .u8 0,.int .u8 0,.int .u8 0,.int .u8 0,.int .u8 0,.int .u8 0,.int .u8 0,.int .u8 0,.int .u8 0,.int .u8 0,.int .u8 0,.int .u8 0,.int .u8 0,.int .u8 0,.int .u8 0,.int .u8 0]).toArray)]) [true,true] kR (all_cons kR (all_cons kR (all_cons kR (all_cons kR all_nil)))) ?_
 refine Sy.round<|Sy.seq<|sC ?_
 refine sP (.int .i64 6)<|sP (.bool true) ?_
 refine sG<|sT<|Sy.skip<|Sy.then_<|Sy.seq<|Sy.block<|Sy.region ?_
 refine sP (.int .i64 6)<|sP (.slice (some ⟨ga,oa,none⟩) 33 cb)<|sP (.int .i64 6)<|sP (.int .i64 7)<|sS (.pointer (some ⟨ga,oa+7,none⟩)) (Quiet.pure (λw=>exec_index 27 _ _ ga (oa) 33 (cb) 7 rfl kR kR kR kF (by decide) w))<|sS (bv o7) (Quiet.thereOne ga (oa+7) 5 _ _ rfl kR hs.1 _ (src_one hs 7 _ kR) Tryz.underlying5 rfl)<|sP (.pointer (some ⟨g1,6,none⟩))<|sW 1 g1 220 (bv o1::bv o2::[bv o3,bv o4,bv o5,bv o6,.int .u8 0,.int .u8 0,.int .u8 0,.int .u8 0,.int .u8 0,.int .u8 0,.int .u8 0,.int .u8 0,.int .u8 0,.int .u8 0,.int .u8 0,.int .u8 0,.int .u8 0,.int .u8 0,.int .u8 0,.int .u8 0,.int .u8 0,.int .u8 0,.int .u8 0,.int .u8 0,.int .u8 0,.int .u8 0,.int .u8 0,.int .u8 0,.int .u8 0,.int .u8 0]).toArray (bv o1::bv o2::[bv o3,bv o4,bv o5,bv o6,bv o7,.int .u8 0,.int .u8 0,.int .u8 0,.int .u8 0,.int .u8 0,.int .u8 0,.int .u8 0,.int .u8 0,.int .u8 0,.int .u8 0,.int .u8 0,.int .u8 0,.int .u8 0,.int .u8 0,.int .u8 0,.int .u8 0,.int .u8 0,.int .u8 0,.int .u8 0,.int .u8 0,.int .u8 0,.int .u8 0,.int .u8 0,.int .u8 0,.int .u8 0]).toArray (wO 6 5 (bv o7) rfl) ?_
 refine Sy.nil<|Sy.in_<|Sy.then_<|Sy.region ?_
 refine sP (.int .i64 6)<|sP (.int .i64 7)<|sP (.int .i64 7) ?_
 refine Sy.nil<|Sy.again ?_
 refine Sy.tidyR (G:=[(0,.slice (some ⟨ga,oa,none⟩) 33 cb),(2,.pointer (some ⟨g0,0,none⟩)),(4,.pointer (some ⟨g1,0,none⟩)),(5,.int .i64 7)]) (M:=[(g0,65,(pcs 0 0 false)),(g1,220,(bv o1::bv o2::[bv o3,bv o4,bv o5,bv o6,bv o7,.int .u8 0,.int .u8 0,.int .u8 0,.int .u8 0,.int .u8 0,.int .u8 0,.int .u8 0,.int .u8 0,.int .u8 0,.int .u8 0,.int .u8 0,.int .u8 0,.int .u8 0,.int .u8 0,.int .u8 0,.int .u8 0,.int .u8 0,.int .u8 0,.int .u8 0,.int .u8 0,.int .u8 0,.int .u8 0,.int .u8 0,.int .u8 0,.int .u8 0]).toArray)]) [true,true] kR (all_cons kR (all_cons kR (all_cons kR (all_cons kR all_nil)))) ?_
 refine Sy.round<|Sy.seq<|sC ?_
 refine sP (.int .i64 7)<|sP (.bool true) ?_
 refine sG<|sT<|Sy.skip<|Sy.then_<|Sy.seq<|Sy.block<|Sy.region ?_
 refine sP (.int .i64 7)<|sP (.slice (some ⟨ga,oa,none⟩) 33 cb)<|sP (.int .i64 7)<|sP (.int .i64 8)<|sS (.pointer (some ⟨ga,oa+8,none⟩)) (Quiet.pure (λw=>exec_index 27 _ _ ga (oa) 33 (cb) 8 rfl kR kR kR kF (by decide) w))<|sS (bv o8) (Quiet.thereOne ga (oa+8) 5 _ _ rfl kR hs.1 _ (src_one hs 8 _ kR) Tryz.underlying5 rfl)<|sP (.pointer (some ⟨g1,7,none⟩))<|sW 1 g1 220 (bv o1::bv o2::[bv o3,bv o4,bv o5,bv o6,bv o7,.int .u8 0,.int .u8 0,.int .u8 0,.int .u8 0,.int .u8 0,.int .u8 0,.int .u8 0,.int .u8 0,.int .u8 0,.int .u8 0,.int .u8 0,.int .u8 0,.int .u8 0,.int .u8 0,.int .u8 0,.int .u8 0,.int .u8 0,.int .u8 0,.int .u8 0,.int .u8 0,.int .u8 0,.int .u8 0,.int .u8 0,.int .u8 0,.int .u8 0]).toArray (bv o1::bv o2::[bv o3,bv o4,bv o5,bv o6,bv o7,bv o8,.int .u8 0,.int .u8 0,.int .u8 0,.int .u8 0,.int .u8 0,.int .u8 0,.int .u8 0,.int .u8 0,.int .u8 0,.int .u8 0,.int .u8 0,.int .u8 0,.int .u8 0,.int .u8 0,.int .u8 0,.int .u8 0,.int .u8 0,.int .u8 0,.int .u8 0,.int .u8 0,.int .u8 0,.int .u8 0,.int .u8 0,.int .u8 0]).toArray (wO 7 5 (bv o8) rfl) ?_
 refine Sy.nil<|Sy.in_<|Sy.then_<|Sy.region ?_
 refine sP (.int .i64 7)<|sP (.int .i64 8)<|sP (.int .i64 8) ?_
 refine Sy.nil<|Sy.again ?_
 refine Sy.tidyR (G:=[(0,.slice (some ⟨ga,oa,none⟩) 33 cb),(2,.pointer (some ⟨g0,0,none⟩)),(4,.pointer (some ⟨g1,0,none⟩)),(5,.int .i64 8)]) (M:=[(g0,65,(pcs 0 0 false)),(g1,220,(bv o1::bv o2::[bv o3,bv o4,bv o5,bv o6,bv o7,bv o8,.int .u8 0,.int .u8 0,.int .u8 0,.int .u8 0,.int .u8 0,.int .u8 0,.int .u8 0,.int .u8 0,.int .u8 0,.int .u8 0,.int .u8 0,.int .u8 0,.int .u8 0,.int .u8 0,.int .u8 0,.int .u8 0,.int .u8 0,.int .u8 0,.int .u8 0,.int .u8 0,.int .u8 0,.int .u8 0,.int .u8 0,.int .u8 0]).toArray)]) [true,true] kR (all_cons kR (all_cons kR (all_cons kR (all_cons kR all_nil)))) ?_
 refine Sy.round<|Sy.seq<|sC ?_
 refine sP (.int .i64 8)<|sP (.bool true) ?_
 refine sG<|sT<|Sy.skip<|Sy.then_<|Sy.seq<|Sy.block<|Sy.region ?_
 refine sP (.int .i64 8)<|sP (.slice (some ⟨ga,oa,none⟩) 33 cb)<|sP (.int .i64 8)<|sP (.int .i64 9)<|sS (.pointer (some ⟨ga,oa+9,none⟩)) (Quiet.pure (λw=>exec_index 27 _ _ ga (oa) 33 (cb) 9 rfl kR kR kR kF (by decide) w))<|sS (bv o9) (Quiet.thereOne ga (oa+9) 5 _ _ rfl kR hs.1 _ (src_one hs 9 _ kR) Tryz.underlying5 rfl)<|sP (.pointer (some ⟨g1,8,none⟩))<|sW 1 g1 220 (bv o1::bv o2::[bv o3,bv o4,bv o5,bv o6,bv o7,bv o8,.int .u8 0,.int .u8 0,.int .u8 0,.int .u8 0,.int .u8 0,.int .u8 0,.int .u8 0,.int .u8 0,.int .u8 0,.int .u8 0,.int .u8 0,.int .u8 0,.int .u8 0,.int .u8 0,.int .u8 0,.int .u8 0,.int .u8 0,.int .u8 0,.int .u8 0,.int .u8 0,.int .u8 0,.int .u8 0,.int .u8 0,.int .u8 0]).toArray (bv o1::bv o2::[bv o3,bv o4,bv o5,bv o6,bv o7,bv o8,bv o9,.int .u8 0,.int .u8 0,.int .u8 0,.int .u8 0,.int .u8 0,.int .u8 0,.int .u8 0,.int .u8 0,.int .u8 0,.int .u8 0,.int .u8 0,.int .u8 0,.int .u8 0,.int .u8 0,.int .u8 0,.int .u8 0,.int .u8 0,.int .u8 0,.int .u8 0,.int .u8 0,.int .u8 0,.int .u8 0,.int .u8 0]).toArray (wO 8 5 (bv o9) rfl) ?_
 refine Sy.nil<|Sy.in_<|Sy.then_<|Sy.region ?_
 refine sP (.int .i64 8)<|sP (.int .i64 9)<|sP (.int .i64 9) ?_
 refine Sy.nil<|Sy.again ?_
 refine Sy.tidyR (G:=[(0,.slice (some ⟨ga,oa,none⟩) 33 cb),(2,.pointer (some ⟨g0,0,none⟩)),(4,.pointer (some ⟨g1,0,none⟩)),(5,.int .i64 9)]) (M:=[(g0,65,(pcs 0 0 false)),(g1,220,(bv o1::bv o2::[bv o3,bv o4,bv o5,bv o6,bv o7,bv o8,bv o9,.int .u8 0,.int .u8 0,.int .u8 0,.int .u8 0,.int .u8 0,.int .u8 0,.int .u8 0,.int .u8 0,.int .u8 0,.int .u8 0,.int .u8 0,.int .u8 0,.int .u8 0,.int .u8 0,.int .u8 0,.int .u8 0,.int .u8 0,.int .u8 0,.int .u8 0,.int .u8 0,.int .u8 0,.int .u8 0,.int .u8 0]).toArray)]) [true,true] kR (all_cons kR (all_cons kR (all_cons kR (all_cons kR all_nil)))) ?_
 refine Sy.round<|Sy.seq<|sC ?_
 refine sP (.int .i64 9)<|sP (.bool true) ?_
 refine sG<|sT<|Sy.skip<|Sy.then_<|Sy.seq<|Sy.block<|Sy.region ?_
 refine sP (.int .i64 9)<|sP (.slice (some ⟨ga,oa,none⟩) 33 cb)<|sP (.int .i64 9)<|sP (.int .i64 10)<|sS (.pointer (some ⟨ga,oa+10,none⟩)) (Quiet.pure (λw=>exec_index 27 _ _ ga (oa) 33 (cb) 10 rfl kR kR kR kF (by decide) w))<|sS (bv o10) (Quiet.thereOne ga (oa+10) 5 _ _ rfl kR hs.1 _ (src_one hs 10 _ kR) Tryz.underlying5 rfl)<|sP (.pointer (some ⟨g1,9,none⟩))<|sW 1 g1 220 (bv o1::bv o2::[bv o3,bv o4,bv o5,bv o6,bv o7,bv o8,bv o9,.int .u8 0,.int .u8 0,.int .u8 0,.int .u8 0,.int .u8 0,.int .u8 0,.int .u8 0,.int .u8 0,.int .u8 0,.int .u8 0,.int .u8 0,.int .u8 0,.int .u8 0,.int .u8 0,.int .u8 0,.int .u8 0,.int .u8 0,.int .u8 0,.int .u8 0,.int .u8 0,.int .u8 0,.int .u8 0,.int .u8 0]).toArray (bv o1::bv o2::[bv o3,bv o4,bv o5,bv o6,bv o7,bv o8,bv o9,bv o10,.int .u8 0,.int .u8 0,.int .u8 0,.int .u8 0,.int .u8 0,.int .u8 0,.int .u8 0,.int .u8 0,.int .u8 0,.int .u8 0,.int .u8 0,.int .u8 0,.int .u8 0,.int .u8 0,.int .u8 0,.int .u8 0,.int .u8 0,.int .u8 0,.int .u8 0,.int .u8 0,.int .u8 0,.int .u8 0]).toArray (wO 9 5 (bv o10) rfl) ?_
 refine Sy.nil<|Sy.in_<|Sy.then_<|Sy.region ?_
 refine sP (.int .i64 9)<|sP (.int .i64 10)<|sP (.int .i64 10) ?_
 refine Sy.nil<|Sy.again ?_
 refine Sy.tidyR (G:=[(0,.slice (some ⟨ga,oa,none⟩) 33 cb),(2,.pointer (some ⟨g0,0,none⟩)),(4,.pointer (some ⟨g1,0,none⟩)),(5,.int .i64 10)]) (M:=[(g0,65,(pcs 0 0 false)),(g1,220,(bv o1::bv o2::[bv o3,bv o4,bv o5,bv o6,bv o7,bv o8,bv o9,bv o10,.int .u8 0,.int .u8 0,.int .u8 0,.int .u8 0,.int .u8 0,.int .u8 0,.int .u8 0,.int .u8 0,.int .u8 0,.int .u8 0,.int .u8 0,.int .u8 0,.int .u8 0,.int .u8 0,.int .u8 0,.int .u8 0,.int .u8 0,.int .u8 0,.int .u8 0,.int .u8 0,.int .u8 0,.int .u8 0]).toArray)]) [true,true] kR (all_cons kR (all_cons kR (all_cons kR (all_cons kR all_nil)))) ?_
 refine Sy.round<|Sy.seq<|sC ?_
 refine sP (.int .i64 10)<|sP (.bool true) ?_
 refine sG<|sT<|Sy.skip<|Sy.then_<|Sy.seq<|Sy.block<|Sy.region ?_
 refine sP (.int .i64 10)<|sP (.slice (some ⟨ga,oa,none⟩) 33 cb)<|sP (.int .i64 10)<|sP (.int .i64 11)<|sS (.pointer (some ⟨ga,oa+11,none⟩)) (Quiet.pure (λw=>exec_index 27 _ _ ga (oa) 33 (cb) 11 rfl kR kR kR kF (by decide) w))<|sS (bv o11) (Quiet.thereOne ga (oa+11) 5 _ _ rfl kR hs.1 _ (src_one hs 11 _ kR) Tryz.underlying5 rfl)<|sP (.pointer (some ⟨g1,10,none⟩))<|sW 1 g1 220 (bv o1::bv o2::[bv o3,bv o4,bv o5,bv o6,bv o7,bv o8,bv o9,bv o10,.int .u8 0,.int .u8 0,.int .u8 0,.int .u8 0,.int .u8 0,.int .u8 0,.int .u8 0,.int .u8 0,.int .u8 0,.int .u8 0,.int .u8 0,.int .u8 0,.int .u8 0,.int .u8 0,.int .u8 0,.int .u8 0,.int .u8 0,.int .u8 0,.int .u8 0,.int .u8 0,.int .u8 0,.int .u8 0]).toArray (bv o1::bv o2::[bv o3,bv o4,bv o5,bv o6,bv o7,bv o8,bv o9,bv o10,bv o11,.int .u8 0,.int .u8 0,.int .u8 0,.int .u8 0,.int .u8 0,.int .u8 0,.int .u8 0,.int .u8 0,.int .u8 0,.int .u8 0,.int .u8 0,.int .u8 0,.int .u8 0,.int .u8 0,.int .u8 0,.int .u8 0,.int .u8 0,.int .u8 0,.int .u8 0,.int .u8 0,.int .u8 0]).toArray (wO 10 5 (bv o11) rfl) ?_
 refine Sy.nil<|Sy.in_<|Sy.then_<|Sy.region ?_
 refine sP (.int .i64 10)<|sP (.int .i64 11)<|sP (.int .i64 11) ?_
 refine Sy.nil<|Sy.again ?_
 refine Sy.tidyR (G:=[(0,.slice (some ⟨ga,oa,none⟩) 33 cb),(2,.pointer (some ⟨g0,0,none⟩)),(4,.pointer (some ⟨g1,0,none⟩)),(5,.int .i64 11)]) (M:=[(g0,65,(pcs 0 0 false)),(g1,220,(bv o1::bv o2::[bv o3,bv o4,bv o5,bv o6,bv o7,bv o8,bv o9,bv o10,bv o11,.int .u8 0,.int .u8 0,.int .u8 0,.int .u8 0,.int .u8 0,.int .u8 0,.int .u8 0,.int .u8 0,.int .u8 0,.int .u8 0,.int .u8 0,.int .u8 0,.int .u8 0,.int .u8 0,.int .u8 0,.int .u8 0,.int .u8 0,.int .u8 0,.int .u8 0,.int .u8 0,.int .u8 0]).toArray)]) [true,true] kR (all_cons kR (all_cons kR (all_cons kR (all_cons kR all_nil)))) ?_
 refine Sy.round<|Sy.seq<|sC ?_
 refine sP (.int .i64 11)<|sP (.bool true) ?_
 refine sG<|sT<|Sy.skip<|Sy.then_<|Sy.seq<|Sy.block<|Sy.region ?_
 refine sP (.int .i64 11)<|sP (.slice (some ⟨ga,oa,none⟩) 33 cb)<|sP (.int .i64 11)<|sP (.int .i64 12)<|sS (.pointer (some ⟨ga,oa+12,none⟩)) (Quiet.pure (λw=>exec_index 27 _ _ ga (oa) 33 (cb) 12 rfl kR kR kR kF (by decide) w))<|sS (bv o12) (Quiet.thereOne ga (oa+12) 5 _ _ rfl kR hs.1 _ (src_one hs 12 _ kR) Tryz.underlying5 rfl)<|sP (.pointer (some ⟨g1,11,none⟩))<|sW 1 g1 220 (bv o1::bv o2::[bv o3,bv o4,bv o5,bv o6,bv o7,bv o8,bv o9,bv o10,bv o11,.int .u8 0,.int .u8 0,.int .u8 0,.int .u8 0,.int .u8 0,.int .u8 0,.int .u8 0,.int .u8 0,.int .u8 0,.int .u8 0,.int .u8 0,.int .u8 0,.int .u8 0,.int .u8 0,.int .u8 0,.int .u8 0,.int .u8 0,.int .u8 0,.int .u8 0,.int .u8 0,.int .u8 0]).toArray (bv o1::bv o2::[bv o3,bv o4,bv o5,bv o6,bv o7,bv o8,bv o9,bv o10,bv o11,bv o12,.int .u8 0,.int .u8 0,.int .u8 0,.int .u8 0,.int .u8 0,.int .u8 0,.int .u8 0,.int .u8 0,.int .u8 0,.int .u8 0,.int .u8 0,.int .u8 0,.int .u8 0,.int .u8 0,.int .u8 0,.int .u8 0,.int .u8 0,.int .u8 0,.int .u8 0,.int .u8 0]).toArray (wO 11 5 (bv o12) rfl) ?_
 refine Sy.nil<|Sy.in_<|Sy.then_<|Sy.region ?_
 refine sP (.int .i64 11)<|sP (.int .i64 12)<|sP (.int .i64 12) ?_
 refine Sy.nil<|Sy.again ?_
 refine Sy.tidyR (G:=[(0,.slice (some ⟨ga,oa,none⟩) 33 cb),(2,.pointer (some ⟨g0,0,none⟩)),(4,.pointer (some ⟨g1,0,none⟩)),(5,.int .i64 12)]) (M:=[(g0,65,(pcs 0 0 false)),(g1,220,(bv o1::bv o2::[bv o3,bv o4,bv o5,bv o6,bv o7,bv o8,bv o9,bv o10,bv o11,bv o12,.int .u8 0,.int .u8 0,.int .u8 0,.int .u8 0,.int .u8 0,.int .u8 0,.int .u8 0,.int .u8 0,.int .u8 0,.int .u8 0,.int .u8 0,.int .u8 0,.int .u8 0,.int .u8 0,.int .u8 0,.int .u8 0,.int .u8 0,.int .u8 0,.int .u8 0,.int .u8 0]).toArray)]) [true,true] kR (all_cons kR (all_cons kR (all_cons kR (all_cons kR all_nil)))) ?_
 refine Sy.round<|Sy.seq<|sC ?_
 refine sP (.int .i64 12)<|sP (.bool true) ?_
 refine sG<|sT<|Sy.skip<|Sy.then_<|Sy.seq<|Sy.block<|Sy.region ?_
 refine sP (.int .i64 12)<|sP (.slice (some ⟨ga,oa,none⟩) 33 cb)<|sP (.int .i64 12)<|sP (.int .i64 13)<|sS (.pointer (some ⟨ga,oa+13,none⟩)) (Quiet.pure (λw=>exec_index 27 _ _ ga (oa) 33 (cb) 13 rfl kR kR kR kF (by decide) w))<|sS (bv o13) (Quiet.thereOne ga (oa+13) 5 _ _ rfl kR hs.1 _ (src_one hs 13 _ kR) Tryz.underlying5 rfl)<|sP (.pointer (some ⟨g1,12,none⟩))<|sW 1 g1 220 (bv o1::bv o2::[bv o3,bv o4,bv o5,bv o6,bv o7,bv o8,bv o9,bv o10,bv o11,bv o12,.int .u8 0,.int .u8 0,.int .u8 0,.int .u8 0,.int .u8 0,.int .u8 0,.int .u8 0,.int .u8 0,.int .u8 0,.int .u8 0,.int .u8 0,.int .u8 0,.int .u8 0,.int .u8 0,.int .u8 0,.int .u8 0,.int .u8 0,.int .u8 0,.int .u8 0,.int .u8 0]).toArray (bv o1::bv o2::[bv o3,bv o4,bv o5,bv o6,bv o7,bv o8,bv o9,bv o10,bv o11,bv o12,bv o13,.int .u8 0,.int .u8 0,.int .u8 0,.int .u8 0,.int .u8 0,.int .u8 0,.int .u8 0,.int .u8 0,.int .u8 0,.int .u8 0,.int .u8 0,.int .u8 0,.int .u8 0,.int .u8 0,.int .u8 0,.int .u8 0,.int .u8 0,.int .u8 0,.int .u8 0]).toArray (wO 12 5 (bv o13) rfl) ?_
 refine Sy.nil<|Sy.in_<|Sy.then_<|Sy.region ?_
 refine sP (.int .i64 12)<|sP (.int .i64 13)<|sP (.int .i64 13) ?_
 refine Sy.nil<|Sy.again ?_
 refine Sy.tidyR (G:=[(0,.slice (some ⟨ga,oa,none⟩) 33 cb),(2,.pointer (some ⟨g0,0,none⟩)),(4,.pointer (some ⟨g1,0,none⟩)),(5,.int .i64 13)]) (M:=[(g0,65,(pcs 0 0 false)),(g1,220,(bv o1::bv o2::[bv o3,bv o4,bv o5,bv o6,bv o7,bv o8,bv o9,bv o10,bv o11,bv o12,bv o13,.int .u8 0,.int .u8 0,.int .u8 0,.int .u8 0,.int .u8 0,.int .u8 0,.int .u8 0,.int .u8 0,.int .u8 0,.int .u8 0,.int .u8 0,.int .u8 0,.int .u8 0,.int .u8 0,.int .u8 0,.int .u8 0,.int .u8 0,.int .u8 0,.int .u8 0]).toArray)]) [true,true] kR (all_cons kR (all_cons kR (all_cons kR (all_cons kR all_nil)))) ?_
 refine Sy.round<|Sy.seq<|sC ?_
 refine sP (.int .i64 13)<|sP (.bool true) ?_
 refine sG<|sT<|Sy.skip<|Sy.then_<|Sy.seq<|Sy.block<|Sy.region ?_
 refine sP (.int .i64 13)<|sP (.slice (some ⟨ga,oa,none⟩) 33 cb)<|sP (.int .i64 13)<|sP (.int .i64 14)<|sS (.pointer (some ⟨ga,oa+14,none⟩)) (Quiet.pure (λw=>exec_index 27 _ _ ga (oa) 33 (cb) 14 rfl kR kR kR kF (by decide) w))<|sS (bv o14) (Quiet.thereOne ga (oa+14) 5 _ _ rfl kR hs.1 _ (src_one hs 14 _ kR) Tryz.underlying5 rfl)<|sP (.pointer (some ⟨g1,13,none⟩))<|sW 1 g1 220 (bv o1::bv o2::[bv o3,bv o4,bv o5,bv o6,bv o7,bv o8,bv o9,bv o10,bv o11,bv o12,bv o13,.int .u8 0,.int .u8 0,.int .u8 0,.int .u8 0,.int .u8 0,.int .u8 0,.int .u8 0,.int .u8 0,.int .u8 0,.int .u8 0,.int .u8 0,.int .u8 0,.int .u8 0,.int .u8 0,.int .u8 0,.int .u8 0,.int .u8 0,.int .u8 0,.int .u8 0]).toArray (bv o1::bv o2::[bv o3,bv o4,bv o5,bv o6,bv o7,bv o8,bv o9,bv o10,bv o11,bv o12,bv o13,bv o14,.int .u8 0,.int .u8 0,.int .u8 0,.int .u8 0,.int .u8 0,.int .u8 0,.int .u8 0,.int .u8 0,.int .u8 0,.int .u8 0,.int .u8 0,.int .u8 0,.int .u8 0,.int .u8 0,.int .u8 0,.int .u8 0,.int .u8 0,.int .u8 0]).toArray (wO 13 5 (bv o14) rfl) ?_
 refine Sy.nil<|Sy.in_<|Sy.then_<|Sy.region ?_
 refine sP (.int .i64 13)<|sP (.int .i64 14)<|sP (.int .i64 14) ?_
 refine Sy.nil<|Sy.again ?_
 refine Sy.tidyR (G:=[(0,.slice (some ⟨ga,oa,none⟩) 33 cb),(2,.pointer (some ⟨g0,0,none⟩)),(4,.pointer (some ⟨g1,0,none⟩)),(5,.int .i64 14)]) (M:=[(g0,65,(pcs 0 0 false)),(g1,220,(bv o1::bv o2::[bv o3,bv o4,bv o5,bv o6,bv o7,bv o8,bv o9,bv o10,bv o11,bv o12,bv o13,bv o14,.int .u8 0,.int .u8 0,.int .u8 0,.int .u8 0,.int .u8 0,.int .u8 0,.int .u8 0,.int .u8 0,.int .u8 0,.int .u8 0,.int .u8 0,.int .u8 0,.int .u8 0,.int .u8 0,.int .u8 0,.int .u8 0,.int .u8 0,.int .u8 0]).toArray)]) [true,true] kR (all_cons kR (all_cons kR (all_cons kR (all_cons kR all_nil)))) ?_
 refine Sy.round<|Sy.seq<|sC ?_
 refine sP (.int .i64 14)<|sP (.bool true) ?_
 refine sG<|sT<|Sy.skip<|Sy.then_<|Sy.seq<|Sy.block<|Sy.region ?_
 refine sP (.int .i64 14)<|sP (.slice (some ⟨ga,oa,none⟩) 33 cb)<|sP (.int .i64 14)<|sP (.int .i64 15)<|sS (.pointer (some ⟨ga,oa+15,none⟩)) (Quiet.pure (λw=>exec_index 27 _ _ ga (oa) 33 (cb) 15 rfl kR kR kR kF (by decide) w))<|sS (bv o15) (Quiet.thereOne ga (oa+15) 5 _ _ rfl kR hs.1 _ (src_one hs 15 _ kR) Tryz.underlying5 rfl)<|sP (.pointer (some ⟨g1,14,none⟩))<|sW 1 g1 220 (bv o1::bv o2::[bv o3,bv o4,bv o5,bv o6,bv o7,bv o8,bv o9,bv o10,bv o11,bv o12,bv o13,bv o14,.int .u8 0,.int .u8 0,.int .u8 0,.int .u8 0,.int .u8 0,.int .u8 0,.int .u8 0,.int .u8 0,.int .u8 0,.int .u8 0,.int .u8 0,.int .u8 0,.int .u8 0,.int .u8 0,.int .u8 0,.int .u8 0,.int .u8 0,.int .u8 0]).toArray (bv o1::bv o2::[bv o3,bv o4,bv o5,bv o6,bv o7,bv o8,bv o9,bv o10,bv o11,bv o12,bv o13,bv o14,bv o15,.int .u8 0,.int .u8 0,.int .u8 0,.int .u8 0,.int .u8 0,.int .u8 0,.int .u8 0,.int .u8 0,.int .u8 0,.int .u8 0,.int .u8 0,.int .u8 0,.int .u8 0,.int .u8 0,.int .u8 0,.int .u8 0,.int .u8 0]).toArray (wO 14 5 (bv o15) rfl) ?_
 refine Sy.nil<|Sy.in_<|Sy.then_<|Sy.region ?_
 refine sP (.int .i64 14)<|sP (.int .i64 15)<|sP (.int .i64 15) ?_
 refine Sy.nil<|Sy.again ?_
 refine Sy.tidyR (G:=[(0,.slice (some ⟨ga,oa,none⟩) 33 cb),(2,.pointer (some ⟨g0,0,none⟩)),(4,.pointer (some ⟨g1,0,none⟩)),(5,.int .i64 15)]) (M:=[(g0,65,(pcs 0 0 false)),(g1,220,(bv o1::bv o2::[bv o3,bv o4,bv o5,bv o6,bv o7,bv o8,bv o9,bv o10,bv o11,bv o12,bv o13,bv o14,bv o15,.int .u8 0,.int .u8 0,.int .u8 0,.int .u8 0,.int .u8 0,.int .u8 0,.int .u8 0,.int .u8 0,.int .u8 0,.int .u8 0,.int .u8 0,.int .u8 0,.int .u8 0,.int .u8 0,.int .u8 0,.int .u8 0,.int .u8 0]).toArray)]) [true,true] kR (all_cons kR (all_cons kR (all_cons kR (all_cons kR all_nil)))) ?_
 refine Sy.round<|Sy.seq<|sC ?_
 refine sP (.int .i64 15)<|sP (.bool true) ?_
 refine sG<|sT<|Sy.skip<|Sy.then_<|Sy.seq<|Sy.block<|Sy.region ?_
 refine sP (.int .i64 15)<|sP (.slice (some ⟨ga,oa,none⟩) 33 cb)<|sP (.int .i64 15)<|sP (.int .i64 16)<|sS (.pointer (some ⟨ga,oa+16,none⟩)) (Quiet.pure (λw=>exec_index 27 _ _ ga (oa) 33 (cb) 16 rfl kR kR kR kF (by decide) w))<|sS (bv o16) (Quiet.thereOne ga (oa+16) 5 _ _ rfl kR hs.1 _ (src_one hs 16 _ kR) Tryz.underlying5 rfl)<|sP (.pointer (some ⟨g1,15,none⟩))<|sW 1 g1 220 (bv o1::bv o2::[bv o3,bv o4,bv o5,bv o6,bv o7,bv o8,bv o9,bv o10,bv o11,bv o12,bv o13,bv o14,bv o15,.int .u8 0,.int .u8 0,.int .u8 0,.int .u8 0,.int .u8 0,.int .u8 0,.int .u8 0,.int .u8 0,.int .u8 0,.int .u8 0,.int .u8 0,.int .u8 0,.int .u8 0,.int .u8 0,.int .u8 0,.int .u8 0,.int .u8 0]).toArray (bv o1::bv o2::[bv o3,bv o4,bv o5,bv o6,bv o7,bv o8,bv o9,bv o10,bv o11,bv o12,bv o13,bv o14,bv o15,bv o16,.int .u8 0,.int .u8 0,.int .u8 0,.int .u8 0,.int .u8 0,.int .u8 0,.int .u8 0,.int .u8 0,.int .u8 0,.int .u8 0,.int .u8 0,.int .u8 0,.int .u8 0,.int .u8 0,.int .u8 0,.int .u8 0]).toArray (wO 15 5 (bv o16) rfl) ?_
 refine Sy.nil<|Sy.in_<|Sy.then_<|Sy.region ?_
 refine sP (.int .i64 15)<|sP (.int .i64 16)<|sP (.int .i64 16) ?_
 refine Sy.nil<|Sy.again ?_
 refine Sy.tidyR (G:=[(0,.slice (some ⟨ga,oa,none⟩) 33 cb),(2,.pointer (some ⟨g0,0,none⟩)),(4,.pointer (some ⟨g1,0,none⟩)),(5,.int .i64 16)]) (M:=[(g0,65,(pcs 0 0 false)),(g1,220,(bv o1::bv o2::[bv o3,bv o4,bv o5,bv o6,bv o7,bv o8,bv o9,bv o10,bv o11,bv o12,bv o13,bv o14,bv o15,bv o16,.int .u8 0,.int .u8 0,.int .u8 0,.int .u8 0,.int .u8 0,.int .u8 0,.int .u8 0,.int .u8 0,.int .u8 0,.int .u8 0,.int .u8 0,.int .u8 0,.int .u8 0,.int .u8 0,.int .u8 0,.int .u8 0]).toArray)]) [true,true] kR (all_cons kR (all_cons kR (all_cons kR (all_cons kR all_nil)))) ?_
 refine Sy.round<|Sy.seq<|sC ?_
 refine sP (.int .i64 16)<|sP (.bool true) ?_
 refine sG<|sT<|Sy.skip<|Sy.then_<|Sy.seq<|Sy.block<|Sy.region ?_
 refine sP (.int .i64 16)<|sP (.slice (some ⟨ga,oa,none⟩) 33 cb)<|sP (.int .i64 16)<|sP (.int .i64 17)<|sS (.pointer (some ⟨ga,oa+17,none⟩)) (Quiet.pure (λw=>exec_index 27 _ _ ga (oa) 33 (cb) 17 rfl kR kR kR kF (by decide) w))<|sS (bv o17) (Quiet.thereOne ga (oa+17) 5 _ _ rfl kR hs.1 _ (src_one hs 17 _ kR) Tryz.underlying5 rfl)<|sP (.pointer (some ⟨g1,16,none⟩))<|sW 1 g1 220 (bv o1::bv o2::[bv o3,bv o4,bv o5,bv o6,bv o7,bv o8,bv o9,bv o10,bv o11,bv o12,bv o13,bv o14,bv o15,bv o16,.int .u8 0,.int .u8 0,.int .u8 0,.int .u8 0,.int .u8 0,.int .u8 0,.int .u8 0,.int .u8 0,.int .u8 0,.int .u8 0,.int .u8 0,.int .u8 0,.int .u8 0,.int .u8 0,.int .u8 0,.int .u8 0]).toArray (bv o1::bv o2::[bv o3,bv o4,bv o5,bv o6,bv o7,bv o8,bv o9,bv o10,bv o11,bv o12,bv o13,bv o14,bv o15,bv o16,bv o17,.int .u8 0,.int .u8 0,.int .u8 0,.int .u8 0,.int .u8 0,.int .u8 0,.int .u8 0,.int .u8 0,.int .u8 0,.int .u8 0,.int .u8 0,.int .u8 0,.int .u8 0,.int .u8 0,.int .u8 0]).toArray (wO 16 5 (bv o17) rfl) ?_
 refine Sy.nil<|Sy.in_<|Sy.then_<|Sy.region ?_
 refine sP (.int .i64 16)<|sP (.int .i64 17)<|sP (.int .i64 17) ?_
 refine Sy.nil<|Sy.again ?_
 refine Sy.tidyR (G:=[(0,.slice (some ⟨ga,oa,none⟩) 33 cb),(2,.pointer (some ⟨g0,0,none⟩)),(4,.pointer (some ⟨g1,0,none⟩)),(5,.int .i64 17)]) (M:=[(g0,65,(pcs 0 0 false)),(g1,220,(bv o1::bv o2::[bv o3,bv o4,bv o5,bv o6,bv o7,bv o8,bv o9,bv o10,bv o11,bv o12,bv o13,bv o14,bv o15,bv o16,bv o17,.int .u8 0,.int .u8 0,.int .u8 0,.int .u8 0,.int .u8 0,.int .u8 0,.int .u8 0,.int .u8 0,.int .u8 0,.int .u8 0,.int .u8 0,.int .u8 0,.int .u8 0,.int .u8 0,.int .u8 0]).toArray)]) [true,true] kR (all_cons kR (all_cons kR (all_cons kR (all_cons kR all_nil)))) ?_
 refine Sy.round<|Sy.seq<|sC ?_
 refine sP (.int .i64 17)<|sP (.bool true) ?_
 refine sG<|sT<|Sy.skip<|Sy.then_<|Sy.seq<|Sy.block<|Sy.region ?_
 refine sP (.int .i64 17)<|sP (.slice (some ⟨ga,oa,none⟩) 33 cb)<|sP (.int .i64 17)<|sP (.int .i64 18)<|sS (.pointer (some ⟨ga,oa+18,none⟩)) (Quiet.pure (λw=>exec_index 27 _ _ ga (oa) 33 (cb) 18 rfl kR kR kR kF (by decide) w))<|sS (bv o18) (Quiet.thereOne ga (oa+18) 5 _ _ rfl kR hs.1 _ (src_one hs 18 _ kR) Tryz.underlying5 rfl)<|sP (.pointer (some ⟨g1,17,none⟩))<|sW 1 g1 220 (bv o1::bv o2::[bv o3,bv o4,bv o5,bv o6,bv o7,bv o8,bv o9,bv o10,bv o11,bv o12,bv o13,bv o14,bv o15,bv o16,bv o17,.int .u8 0,.int .u8 0,.int .u8 0,.int .u8 0,.int .u8 0,.int .u8 0,.int .u8 0,.int .u8 0,.int .u8 0,.int .u8 0,.int .u8 0,.int .u8 0,.int .u8 0,.int .u8 0,.int .u8 0]).toArray (bv o1::bv o2::[bv o3,bv o4,bv o5,bv o6,bv o7,bv o8,bv o9,bv o10,bv o11,bv o12,bv o13,bv o14,bv o15,bv o16,bv o17,bv o18,.int .u8 0,.int .u8 0,.int .u8 0,.int .u8 0,.int .u8 0,.int .u8 0,.int .u8 0,.int .u8 0,.int .u8 0,.int .u8 0,.int .u8 0,.int .u8 0,.int .u8 0,.int .u8 0]).toArray (wO 17 5 (bv o18) rfl) ?_
 refine Sy.nil<|Sy.in_<|Sy.then_<|Sy.region ?_
 refine sP (.int .i64 17)<|sP (.int .i64 18)<|sP (.int .i64 18) ?_
 refine Sy.nil<|Sy.again ?_
 refine Sy.tidyR (G:=[(0,.slice (some ⟨ga,oa,none⟩) 33 cb),(2,.pointer (some ⟨g0,0,none⟩)),(4,.pointer (some ⟨g1,0,none⟩)),(5,.int .i64 18)]) (M:=[(g0,65,(pcs 0 0 false)),(g1,220,(bv o1::bv o2::[bv o3,bv o4,bv o5,bv o6,bv o7,bv o8,bv o9,bv o10,bv o11,bv o12,bv o13,bv o14,bv o15,bv o16,bv o17,bv o18,.int .u8 0,.int .u8 0,.int .u8 0,.int .u8 0,.int .u8 0,.int .u8 0,.int .u8 0,.int .u8 0,.int .u8 0,.int .u8 0,.int .u8 0,.int .u8 0,.int .u8 0,.int .u8 0]).toArray)]) [true,true] kR (all_cons kR (all_cons kR (all_cons kR (all_cons kR all_nil)))) ?_
 refine Sy.round<|Sy.seq<|sC ?_
 refine sP (.int .i64 18)<|sP (.bool true) ?_
 refine sG<|sT<|Sy.skip<|Sy.then_<|Sy.seq<|Sy.block<|Sy.region ?_
 refine sP (.int .i64 18)<|sP (.slice (some ⟨ga,oa,none⟩) 33 cb)<|sP (.int .i64 18)<|sP (.int .i64 19)<|sS (.pointer (some ⟨ga,oa+19,none⟩)) (Quiet.pure (λw=>exec_index 27 _ _ ga (oa) 33 (cb) 19 rfl kR kR kR kF (by decide) w))<|sS (bv o19) (Quiet.thereOne ga (oa+19) 5 _ _ rfl kR hs.1 _ (src_one hs 19 _ kR) Tryz.underlying5 rfl)<|sP (.pointer (some ⟨g1,18,none⟩))<|sW 1 g1 220 (bv o1::bv o2::[bv o3,bv o4,bv o5,bv o6,bv o7,bv o8,bv o9,bv o10,bv o11,bv o12,bv o13,bv o14,bv o15,bv o16,bv o17,bv o18,.int .u8 0,.int .u8 0,.int .u8 0,.int .u8 0,.int .u8 0,.int .u8 0,.int .u8 0,.int .u8 0,.int .u8 0,.int .u8 0,.int .u8 0,.int .u8 0,.int .u8 0,.int .u8 0]).toArray (bv o1::bv o2::[bv o3,bv o4,bv o5,bv o6,bv o7,bv o8,bv o9,bv o10,bv o11,bv o12,bv o13,bv o14,bv o15,bv o16,bv o17,bv o18,bv o19,.int .u8 0,.int .u8 0,.int .u8 0,.int .u8 0,.int .u8 0,.int .u8 0,.int .u8 0,.int .u8 0,.int .u8 0,.int .u8 0,.int .u8 0,.int .u8 0,.int .u8 0]).toArray (wO 18 5 (bv o19) rfl) ?_
 refine Sy.nil<|Sy.in_<|Sy.then_<|Sy.region ?_
 refine sP (.int .i64 18)<|sP (.int .i64 19)<|sP (.int .i64 19) ?_
 refine Sy.nil<|Sy.again ?_
 refine Sy.tidyR (G:=[(0,.slice (some ⟨ga,oa,none⟩) 33 cb),(2,.pointer (some ⟨g0,0,none⟩)),(4,.pointer (some ⟨g1,0,none⟩)),(5,.int .i64 19)]) (M:=[(g0,65,(pcs 0 0 false)),(g1,220,(bv o1::bv o2::[bv o3,bv o4,bv o5,bv o6,bv o7,bv o8,bv o9,bv o10,bv o11,bv o12,bv o13,bv o14,bv o15,bv o16,bv o17,bv o18,bv o19,.int .u8 0,.int .u8 0,.int .u8 0,.int .u8 0,.int .u8 0,.int .u8 0,.int .u8 0,.int .u8 0,.int .u8 0,.int .u8 0,.int .u8 0,.int .u8 0,.int .u8 0]).toArray)]) [true,true] kR (all_cons kR (all_cons kR (all_cons kR (all_cons kR all_nil)))) ?_
 refine Sy.round<|Sy.seq<|sC ?_
 refine sP (.int .i64 19)<|sP (.bool true) ?_
 refine sG<|sT<|Sy.skip<|Sy.then_<|Sy.seq<|Sy.block<|Sy.region ?_
 refine sP (.int .i64 19)<|sP (.slice (some ⟨ga,oa,none⟩) 33 cb)<|sP (.int .i64 19)<|sP (.int .i64 20)<|sS (.pointer (some ⟨ga,oa+20,none⟩)) (Quiet.pure (λw=>exec_index 27 _ _ ga (oa) 33 (cb) 20 rfl kR kR kR kF (by decide) w))<|sS (bv o20) (Quiet.thereOne ga (oa+20) 5 _ _ rfl kR hs.1 _ (src_one hs 20 _ kR) Tryz.underlying5 rfl)<|sP (.pointer (some ⟨g1,19,none⟩))<|sW 1 g1 220 (bv o1::bv o2::[bv o3,bv o4,bv o5,bv o6,bv o7,bv o8,bv o9,bv o10,bv o11,bv o12,bv o13,bv o14,bv o15,bv o16,bv o17,bv o18,bv o19,.int .u8 0,.int .u8 0,.int .u8 0,.int .u8 0,.int .u8 0,.int .u8 0,.int .u8 0,.int .u8 0,.int .u8 0,.int .u8 0,.int .u8 0,.int .u8 0,.int .u8 0]).toArray (bv o1::bv o2::[bv o3,bv o4,bv o5,bv o6,bv o7,bv o8,bv o9,bv o10,bv o11,bv o12,bv o13,bv o14,bv o15,bv o16,bv o17,bv o18,bv o19,bv o20,.int .u8 0,.int .u8 0,.int .u8 0,.int .u8 0,.int .u8 0,.int .u8 0,.int .u8 0,.int .u8 0,.int .u8 0,.int .u8 0,.int .u8 0,.int .u8 0]).toArray (wO 19 5 (bv o20) rfl) ?_
 refine Sy.nil<|Sy.in_<|Sy.then_<|Sy.region ?_
 refine sP (.int .i64 19)<|sP (.int .i64 20)<|sP (.int .i64 20) ?_
 refine Sy.nil<|Sy.again ?_
 refine Sy.tidyR (G:=[(0,.slice (some ⟨ga,oa,none⟩) 33 cb),(2,.pointer (some ⟨g0,0,none⟩)),(4,.pointer (some ⟨g1,0,none⟩)),(5,.int .i64 20)]) (M:=[(g0,65,(pcs 0 0 false)),(g1,220,(bv o1::bv o2::[bv o3,bv o4,bv o5,bv o6,bv o7,bv o8,bv o9,bv o10,bv o11,bv o12,bv o13,bv o14,bv o15,bv o16,bv o17,bv o18,bv o19,bv o20,.int .u8 0,.int .u8 0,.int .u8 0,.int .u8 0,.int .u8 0,.int .u8 0,.int .u8 0,.int .u8 0,.int .u8 0,.int .u8 0,.int .u8 0,.int .u8 0]).toArray)]) [true,true] kR (all_cons kR (all_cons kR (all_cons kR (all_cons kR all_nil)))) ?_
 refine Sy.round<|Sy.seq<|sC ?_
 refine sP (.int .i64 20)<|sP (.bool true) ?_
 refine sG<|sT<|Sy.skip<|Sy.then_<|Sy.seq<|Sy.block<|Sy.region ?_
 refine sP (.int .i64 20)<|sP (.slice (some ⟨ga,oa,none⟩) 33 cb)<|sP (.int .i64 20)<|sP (.int .i64 21)<|sS (.pointer (some ⟨ga,oa+21,none⟩)) (Quiet.pure (λw=>exec_index 27 _ _ ga (oa) 33 (cb) 21 rfl kR kR kR kF (by decide) w))<|sS (bv o21) (Quiet.thereOne ga (oa+21) 5 _ _ rfl kR hs.1 _ (src_one hs 21 _ kR) Tryz.underlying5 rfl)<|sP (.pointer (some ⟨g1,20,none⟩))<|sW 1 g1 220 (bv o1::bv o2::[bv o3,bv o4,bv o5,bv o6,bv o7,bv o8,bv o9,bv o10,bv o11,bv o12,bv o13,bv o14,bv o15,bv o16,bv o17,bv o18,bv o19,bv o20,.int .u8 0,.int .u8 0,.int .u8 0,.int .u8 0,.int .u8 0,.int .u8 0,.int .u8 0,.int .u8 0,.int .u8 0,.int .u8 0,.int .u8 0,.int .u8 0]).toArray (bv o1::bv o2::[bv o3,bv o4,bv o5,bv o6,bv o7,bv o8,bv o9,bv o10,bv o11,bv o12,bv o13,bv o14,bv o15,bv o16,bv o17,bv o18,bv o19,bv o20,bv o21,.int .u8 0,.int .u8 0,.int .u8 0,.int .u8 0,.int .u8 0,.int .u8 0,.int .u8 0,.int .u8 0,.int .u8 0,.int .u8 0,.int .u8 0]).toArray (wO 20 5 (bv o21) rfl) ?_
 refine Sy.nil<|Sy.in_<|Sy.then_<|Sy.region ?_
 refine sP (.int .i64 20)<|sP (.int .i64 21)<|sP (.int .i64 21) ?_
 refine Sy.nil<|Sy.again ?_
 refine Sy.tidyR (G:=[(0,.slice (some ⟨ga,oa,none⟩) 33 cb),(2,.pointer (some ⟨g0,0,none⟩)),(4,.pointer (some ⟨g1,0,none⟩)),(5,.int .i64 21)]) (M:=[(g0,65,(pcs 0 0 false)),(g1,220,(bv o1::bv o2::[bv o3,bv o4,bv o5,bv o6,bv o7,bv o8,bv o9,bv o10,bv o11,bv o12,bv o13,bv o14,bv o15,bv o16,bv o17,bv o18,bv o19,bv o20,bv o21,.int .u8 0,.int .u8 0,.int .u8 0,.int .u8 0,.int .u8 0,.int .u8 0,.int .u8 0,.int .u8 0,.int .u8 0,.int .u8 0,.int .u8 0]).toArray)]) [true,true] kR (all_cons kR (all_cons kR (all_cons kR (all_cons kR all_nil)))) ?_
 refine Sy.round<|Sy.seq<|sC ?_
 refine sP (.int .i64 21)<|sP (.bool true) ?_
 refine sG<|sT<|Sy.skip<|Sy.then_<|Sy.seq<|Sy.block<|Sy.region ?_
 refine sP (.int .i64 21)<|sP (.slice (some ⟨ga,oa,none⟩) 33 cb)<|sP (.int .i64 21)<|sP (.int .i64 22)<|sS (.pointer (some ⟨ga,oa+22,none⟩)) (Quiet.pure (λw=>exec_index 27 _ _ ga (oa) 33 (cb) 22 rfl kR kR kR kF (by decide) w))<|sS (bv o22) (Quiet.thereOne ga (oa+22) 5 _ _ rfl kR hs.1 _ (src_one hs 22 _ kR) Tryz.underlying5 rfl)<|sP (.pointer (some ⟨g1,21,none⟩))<|sW 1 g1 220 (bv o1::bv o2::[bv o3,bv o4,bv o5,bv o6,bv o7,bv o8,bv o9,bv o10,bv o11,bv o12,bv o13,bv o14,bv o15,bv o16,bv o17,bv o18,bv o19,bv o20,bv o21,.int .u8 0,.int .u8 0,.int .u8 0,.int .u8 0,.int .u8 0,.int .u8 0,.int .u8 0,.int .u8 0,.int .u8 0,.int .u8 0,.int .u8 0]).toArray (bv o1::bv o2::[bv o3,bv o4,bv o5,bv o6,bv o7,bv o8,bv o9,bv o10,bv o11,bv o12,bv o13,bv o14,bv o15,bv o16,bv o17,bv o18,bv o19,bv o20,bv o21,bv o22,.int .u8 0,.int .u8 0,.int .u8 0,.int .u8 0,.int .u8 0,.int .u8 0,.int .u8 0,.int .u8 0,.int .u8 0,.int .u8 0]).toArray (wO 21 5 (bv o22) rfl) ?_
 refine Sy.nil<|Sy.in_<|Sy.then_<|Sy.region ?_
 refine sP (.int .i64 21)<|sP (.int .i64 22)<|sP (.int .i64 22) ?_
 refine Sy.nil<|Sy.again ?_
 refine Sy.tidyR (G:=[(0,.slice (some ⟨ga,oa,none⟩) 33 cb),(2,.pointer (some ⟨g0,0,none⟩)),(4,.pointer (some ⟨g1,0,none⟩)),(5,.int .i64 22)]) (M:=[(g0,65,(pcs 0 0 false)),(g1,220,(bv o1::bv o2::[bv o3,bv o4,bv o5,bv o6,bv o7,bv o8,bv o9,bv o10,bv o11,bv o12,bv o13,bv o14,bv o15,bv o16,bv o17,bv o18,bv o19,bv o20,bv o21,bv o22,.int .u8 0,.int .u8 0,.int .u8 0,.int .u8 0,.int .u8 0,.int .u8 0,.int .u8 0,.int .u8 0,.int .u8 0,.int .u8 0]).toArray)]) [true,true] kR (all_cons kR (all_cons kR (all_cons kR (all_cons kR all_nil)))) ?_
 refine Sy.round<|Sy.seq<|sC ?_
 refine sP (.int .i64 22)<|sP (.bool true) ?_
 refine sG<|sT<|Sy.skip<|Sy.then_<|Sy.seq<|Sy.block<|Sy.region ?_
 refine sP (.int .i64 22)<|sP (.slice (some ⟨ga,oa,none⟩) 33 cb)<|sP (.int .i64 22)<|sP (.int .i64 23)<|sS (.pointer (some ⟨ga,oa+23,none⟩)) (Quiet.pure (λw=>exec_index 27 _ _ ga (oa) 33 (cb) 23 rfl kR kR kR kF (by decide) w))<|sS (bv o23) (Quiet.thereOne ga (oa+23) 5 _ _ rfl kR hs.1 _ (src_one hs 23 _ kR) Tryz.underlying5 rfl)<|sP (.pointer (some ⟨g1,22,none⟩))<|sW 1 g1 220 (bv o1::bv o2::[bv o3,bv o4,bv o5,bv o6,bv o7,bv o8,bv o9,bv o10,bv o11,bv o12,bv o13,bv o14,bv o15,bv o16,bv o17,bv o18,bv o19,bv o20,bv o21,bv o22,.int .u8 0,.int .u8 0,.int .u8 0,.int .u8 0,.int .u8 0,.int .u8 0,.int .u8 0,.int .u8 0,.int .u8 0,.int .u8 0]).toArray (bv o1::bv o2::[bv o3,bv o4,bv o5,bv o6,bv o7,bv o8,bv o9,bv o10,bv o11,bv o12,bv o13,bv o14,bv o15,bv o16,bv o17,bv o18,bv o19,bv o20,bv o21,bv o22,bv o23,.int .u8 0,.int .u8 0,.int .u8 0,.int .u8 0,.int .u8 0,.int .u8 0,.int .u8 0,.int .u8 0,.int .u8 0]).toArray (wO 22 5 (bv o23) rfl) ?_
 refine Sy.nil<|Sy.in_<|Sy.then_<|Sy.region ?_
 refine sP (.int .i64 22)<|sP (.int .i64 23)<|sP (.int .i64 23) ?_
 refine Sy.nil<|Sy.again ?_
 refine Sy.tidyR (G:=[(0,.slice (some ⟨ga,oa,none⟩) 33 cb),(2,.pointer (some ⟨g0,0,none⟩)),(4,.pointer (some ⟨g1,0,none⟩)),(5,.int .i64 23)]) (M:=[(g0,65,(pcs 0 0 false)),(g1,220,(bv o1::bv o2::[bv o3,bv o4,bv o5,bv o6,bv o7,bv o8,bv o9,bv o10,bv o11,bv o12,bv o13,bv o14,bv o15,bv o16,bv o17,bv o18,bv o19,bv o20,bv o21,bv o22,bv o23,.int .u8 0,.int .u8 0,.int .u8 0,.int .u8 0,.int .u8 0,.int .u8 0,.int .u8 0,.int .u8 0,.int .u8 0]).toArray)]) [true,true] kR (all_cons kR (all_cons kR (all_cons kR (all_cons kR all_nil)))) ?_
 refine Sy.round<|Sy.seq<|sC ?_
 refine sP (.int .i64 23)<|sP (.bool true) ?_
 refine sG<|sT<|Sy.skip<|Sy.then_<|Sy.seq<|Sy.block<|Sy.region ?_
 refine sP (.int .i64 23)<|sP (.slice (some ⟨ga,oa,none⟩) 33 cb)<|sP (.int .i64 23)<|sP (.int .i64 24)<|sS (.pointer (some ⟨ga,oa+24,none⟩)) (Quiet.pure (λw=>exec_index 27 _ _ ga (oa) 33 (cb) 24 rfl kR kR kR kF (by decide) w))<|sS (bv o24) (Quiet.thereOne ga (oa+24) 5 _ _ rfl kR hs.1 _ (src_one hs 24 _ kR) Tryz.underlying5 rfl)<|sP (.pointer (some ⟨g1,23,none⟩))<|sW 1 g1 220 (bv o1::bv o2::[bv o3,bv o4,bv o5,bv o6,bv o7,bv o8,bv o9,bv o10,bv o11,bv o12,bv o13,bv o14,bv o15,bv o16,bv o17,bv o18,bv o19,bv o20,bv o21,bv o22,bv o23,.int .u8 0,.int .u8 0,.int .u8 0,.int .u8 0,.int .u8 0,.int .u8 0,.int .u8 0,.int .u8 0,.int .u8 0]).toArray (bv o1::bv o2::[bv o3,bv o4,bv o5,bv o6,bv o7,bv o8,bv o9,bv o10,bv o11,bv o12,bv o13,bv o14,bv o15,bv o16,bv o17,bv o18,bv o19,bv o20,bv o21,bv o22,bv o23,bv o24,.int .u8 0,.int .u8 0,.int .u8 0,.int .u8 0,.int .u8 0,.int .u8 0,.int .u8 0,.int .u8 0]).toArray (wO 23 5 (bv o24) rfl) ?_
 refine Sy.nil<|Sy.in_<|Sy.then_<|Sy.region ?_
 refine sP (.int .i64 23)<|sP (.int .i64 24)<|sP (.int .i64 24) ?_
 refine Sy.nil<|Sy.again ?_
 refine Sy.tidyR (G:=[(0,.slice (some ⟨ga,oa,none⟩) 33 cb),(2,.pointer (some ⟨g0,0,none⟩)),(4,.pointer (some ⟨g1,0,none⟩)),(5,.int .i64 24)]) (M:=[(g0,65,(pcs 0 0 false)),(g1,220,(bv o1::bv o2::[bv o3,bv o4,bv o5,bv o6,bv o7,bv o8,bv o9,bv o10,bv o11,bv o12,bv o13,bv o14,bv o15,bv o16,bv o17,bv o18,bv o19,bv o20,bv o21,bv o22,bv o23,bv o24,.int .u8 0,.int .u8 0,.int .u8 0,.int .u8 0,.int .u8 0,.int .u8 0,.int .u8 0,.int .u8 0]).toArray)]) [true,true] kR (all_cons kR (all_cons kR (all_cons kR (all_cons kR all_nil)))) ?_
 refine Sy.round<|Sy.seq<|sC ?_
 refine sP (.int .i64 24)<|sP (.bool true) ?_
 refine sG<|sT<|Sy.skip<|Sy.then_<|Sy.seq<|Sy.block<|Sy.region ?_
 refine sP (.int .i64 24)<|sP (.slice (some ⟨ga,oa,none⟩) 33 cb)<|sP (.int .i64 24)<|sP (.int .i64 25)<|sS (.pointer (some ⟨ga,oa+25,none⟩)) (Quiet.pure (λw=>exec_index 27 _ _ ga (oa) 33 (cb) 25 rfl kR kR kR kF (by decide) w))<|sS (bv o25) (Quiet.thereOne ga (oa+25) 5 _ _ rfl kR hs.1 _ (src_one hs 25 _ kR) Tryz.underlying5 rfl)<|sP (.pointer (some ⟨g1,24,none⟩))<|sW 1 g1 220 (bv o1::bv o2::[bv o3,bv o4,bv o5,bv o6,bv o7,bv o8,bv o9,bv o10,bv o11,bv o12,bv o13,bv o14,bv o15,bv o16,bv o17,bv o18,bv o19,bv o20,bv o21,bv o22,bv o23,bv o24,.int .u8 0,.int .u8 0,.int .u8 0,.int .u8 0,.int .u8 0,.int .u8 0,.int .u8 0,.int .u8 0]).toArray (bv o1::bv o2::[bv o3,bv o4,bv o5,bv o6,bv o7,bv o8,bv o9,bv o10,bv o11,bv o12,bv o13,bv o14,bv o15,bv o16,bv o17,bv o18,bv o19,bv o20,bv o21,bv o22,bv o23,bv o24,bv o25,.int .u8 0,.int .u8 0,.int .u8 0,.int .u8 0,.int .u8 0,.int .u8 0,.int .u8 0]).toArray (wO 24 5 (bv o25) rfl) ?_
 refine Sy.nil<|Sy.in_<|Sy.then_<|Sy.region ?_
 refine sP (.int .i64 24)<|sP (.int .i64 25)<|sP (.int .i64 25) ?_
 refine Sy.nil<|Sy.again ?_
 refine Sy.tidyR (G:=[(0,.slice (some ⟨ga,oa,none⟩) 33 cb),(2,.pointer (some ⟨g0,0,none⟩)),(4,.pointer (some ⟨g1,0,none⟩)),(5,.int .i64 25)]) (M:=[(g0,65,(pcs 0 0 false)),(g1,220,(bv o1::bv o2::[bv o3,bv o4,bv o5,bv o6,bv o7,bv o8,bv o9,bv o10,bv o11,bv o12,bv o13,bv o14,bv o15,bv o16,bv o17,bv o18,bv o19,bv o20,bv o21,bv o22,bv o23,bv o24,bv o25,.int .u8 0,.int .u8 0,.int .u8 0,.int .u8 0,.int .u8 0,.int .u8 0,.int .u8 0]).toArray)]) [true,true] kR (all_cons kR (all_cons kR (all_cons kR (all_cons kR all_nil)))) ?_
 refine Sy.round<|Sy.seq<|sC ?_
 refine sP (.int .i64 25)<|sP (.bool true) ?_
 refine sG<|sT<|Sy.skip<|Sy.then_<|Sy.seq<|Sy.block<|Sy.region ?_
 refine sP (.int .i64 25)<|sP (.slice (some ⟨ga,oa,none⟩) 33 cb)<|sP (.int .i64 25)<|sP (.int .i64 26)<|sS (.pointer (some ⟨ga,oa+26,none⟩)) (Quiet.pure (λw=>exec_index 27 _ _ ga (oa) 33 (cb) 26 rfl kR kR kR kF (by decide) w))<|sS (bv o26) (Quiet.thereOne ga (oa+26) 5 _ _ rfl kR hs.1 _ (src_one hs 26 _ kR) Tryz.underlying5 rfl)<|sP (.pointer (some ⟨g1,25,none⟩))<|sW 1 g1 220 (bv o1::bv o2::[bv o3,bv o4,bv o5,bv o6,bv o7,bv o8,bv o9,bv o10,bv o11,bv o12,bv o13,bv o14,bv o15,bv o16,bv o17,bv o18,bv o19,bv o20,bv o21,bv o22,bv o23,bv o24,bv o25,.int .u8 0,.int .u8 0,.int .u8 0,.int .u8 0,.int .u8 0,.int .u8 0,.int .u8 0]).toArray (bv o1::bv o2::[bv o3,bv o4,bv o5,bv o6,bv o7,bv o8,bv o9,bv o10,bv o11,bv o12,bv o13,bv o14,bv o15,bv o16,bv o17,bv o18,bv o19,bv o20,bv o21,bv o22,bv o23,bv o24,bv o25,bv o26,.int .u8 0,.int .u8 0,.int .u8 0,.int .u8 0,.int .u8 0,.int .u8 0]).toArray (wO 25 5 (bv o26) rfl) ?_
 refine Sy.nil<|Sy.in_<|Sy.then_<|Sy.region ?_
 refine sP (.int .i64 25)<|sP (.int .i64 26)<|sP (.int .i64 26) ?_
 refine Sy.nil<|Sy.again ?_
 refine Sy.tidyR (G:=[(0,.slice (some ⟨ga,oa,none⟩) 33 cb),(2,.pointer (some ⟨g0,0,none⟩)),(4,.pointer (some ⟨g1,0,none⟩)),(5,.int .i64 26)]) (M:=[(g0,65,(pcs 0 0 false)),(g1,220,(bv o1::bv o2::[bv o3,bv o4,bv o5,bv o6,bv o7,bv o8,bv o9,bv o10,bv o11,bv o12,bv o13,bv o14,bv o15,bv o16,bv o17,bv o18,bv o19,bv o20,bv o21,bv o22,bv o23,bv o24,bv o25,bv o26,.int .u8 0,.int .u8 0,.int .u8 0,.int .u8 0,.int .u8 0,.int .u8 0]).toArray)]) [true,true] kR (all_cons kR (all_cons kR (all_cons kR (all_cons kR all_nil)))) ?_
 refine Sy.round<|Sy.seq<|sC ?_
 refine sP (.int .i64 26)<|sP (.bool true) ?_
 refine sG<|sT<|Sy.skip<|Sy.then_<|Sy.seq<|Sy.block<|Sy.region ?_
 refine sP (.int .i64 26)<|sP (.slice (some ⟨ga,oa,none⟩) 33 cb)<|sP (.int .i64 26)<|sP (.int .i64 27)<|sS (.pointer (some ⟨ga,oa+27,none⟩)) (Quiet.pure (λw=>exec_index 27 _ _ ga (oa) 33 (cb) 27 rfl kR kR kR kF (by decide) w))<|sS (bv o27) (Quiet.thereOne ga (oa+27) 5 _ _ rfl kR hs.1 _ (src_one hs 27 _ kR) Tryz.underlying5 rfl)<|sP (.pointer (some ⟨g1,26,none⟩))<|sW 1 g1 220 (bv o1::bv o2::[bv o3,bv o4,bv o5,bv o6,bv o7,bv o8,bv o9,bv o10,bv o11,bv o12,bv o13,bv o14,bv o15,bv o16,bv o17,bv o18,bv o19,bv o20,bv o21,bv o22,bv o23,bv o24,bv o25,bv o26,.int .u8 0,.int .u8 0,.int .u8 0,.int .u8 0,.int .u8 0,.int .u8 0]).toArray (bv o1::bv o2::[bv o3,bv o4,bv o5,bv o6,bv o7,bv o8,bv o9,bv o10,bv o11,bv o12,bv o13,bv o14,bv o15,bv o16,bv o17,bv o18,bv o19,bv o20,bv o21,bv o22,bv o23,bv o24,bv o25,bv o26,bv o27,.int .u8 0,.int .u8 0,.int .u8 0,.int .u8 0,.int .u8 0]).toArray (wO 26 5 (bv o27) rfl) ?_
 refine Sy.nil<|Sy.in_<|Sy.then_<|Sy.region ?_
 refine sP (.int .i64 26)<|sP (.int .i64 27)<|sP (.int .i64 27) ?_
 refine Sy.nil<|Sy.again ?_
 refine Sy.tidyR (G:=[(0,.slice (some ⟨ga,oa,none⟩) 33 cb),(2,.pointer (some ⟨g0,0,none⟩)),(4,.pointer (some ⟨g1,0,none⟩)),(5,.int .i64 27)]) (M:=[(g0,65,(pcs 0 0 false)),(g1,220,(bv o1::bv o2::[bv o3,bv o4,bv o5,bv o6,bv o7,bv o8,bv o9,bv o10,bv o11,bv o12,bv o13,bv o14,bv o15,bv o16,bv o17,bv o18,bv o19,bv o20,bv o21,bv o22,bv o23,bv o24,bv o25,bv o26,bv o27,.int .u8 0,.int .u8 0,.int .u8 0,.int .u8 0,.int .u8 0]).toArray)]) [true,true] kR (all_cons kR (all_cons kR (all_cons kR (all_cons kR all_nil)))) ?_
 refine Sy.round<|Sy.seq<|sC ?_
 refine sP (.int .i64 27)<|sP (.bool true) ?_
 refine sG<|sT<|Sy.skip<|Sy.then_<|Sy.seq<|Sy.block<|Sy.region ?_
 refine sP (.int .i64 27)<|sP (.slice (some ⟨ga,oa,none⟩) 33 cb)<|sP (.int .i64 27)<|sP (.int .i64 28)<|sS (.pointer (some ⟨ga,oa+28,none⟩)) (Quiet.pure (λw=>exec_index 27 _ _ ga (oa) 33 (cb) 28 rfl kR kR kR kF (by decide) w))<|sS (bv o28) (Quiet.thereOne ga (oa+28) 5 _ _ rfl kR hs.1 _ (src_one hs 28 _ kR) Tryz.underlying5 rfl)<|sP (.pointer (some ⟨g1,27,none⟩))<|sW 1 g1 220 (bv o1::bv o2::[bv o3,bv o4,bv o5,bv o6,bv o7,bv o8,bv o9,bv o10,bv o11,bv o12,bv o13,bv o14,bv o15,bv o16,bv o17,bv o18,bv o19,bv o20,bv o21,bv o22,bv o23,bv o24,bv o25,bv o26,bv o27,.int .u8 0,.int .u8 0,.int .u8 0,.int .u8 0,.int .u8 0]).toArray (bv o1::bv o2::[bv o3,bv o4,bv o5,bv o6,bv o7,bv o8,bv o9,bv o10,bv o11,bv o12,bv o13,bv o14,bv o15,bv o16,bv o17,bv o18,bv o19,bv o20,bv o21,bv o22,bv o23,bv o24,bv o25,bv o26,bv o27,bv o28,.int .u8 0,.int .u8 0,.int .u8 0,.int .u8 0]).toArray (wO 27 5 (bv o28) rfl) ?_
 refine Sy.nil<|Sy.in_<|Sy.then_<|Sy.region ?_
 refine sP (.int .i64 27)<|sP (.int .i64 28)<|sP (.int .i64 28) ?_
 refine Sy.nil<|Sy.again ?_
 refine Sy.tidyR (G:=[(0,.slice (some ⟨ga,oa,none⟩) 33 cb),(2,.pointer (some ⟨g0,0,none⟩)),(4,.pointer (some ⟨g1,0,none⟩)),(5,.int .i64 28)]) (M:=[(g0,65,(pcs 0 0 false)),(g1,220,(bv o1::bv o2::[bv o3,bv o4,bv o5,bv o6,bv o7,bv o8,bv o9,bv o10,bv o11,bv o12,bv o13,bv o14,bv o15,bv o16,bv o17,bv o18,bv o19,bv o20,bv o21,bv o22,bv o23,bv o24,bv o25,bv o26,bv o27,bv o28,.int .u8 0,.int .u8 0,.int .u8 0,.int .u8 0]).toArray)]) [true,true] kR (all_cons kR (all_cons kR (all_cons kR (all_cons kR all_nil)))) ?_
 refine Sy.round<|Sy.seq<|sC ?_
 refine sP (.int .i64 28)<|sP (.bool true) ?_
 refine sG<|sT<|Sy.skip<|Sy.then_<|Sy.seq<|Sy.block<|Sy.region ?_
 refine sP (.int .i64 28)<|sP (.slice (some ⟨ga,oa,none⟩) 33 cb)<|sP (.int .i64 28)<|sP (.int .i64 29)<|sS (.pointer (some ⟨ga,oa+29,none⟩)) (Quiet.pure (λw=>exec_index 27 _ _ ga (oa) 33 (cb) 29 rfl kR kR kR kF (by decide) w))<|sS (bv o29) (Quiet.thereOne ga (oa+29) 5 _ _ rfl kR hs.1 _ (src_one hs 29 _ kR) Tryz.underlying5 rfl)<|sP (.pointer (some ⟨g1,28,none⟩))<|sW 1 g1 220 (bv o1::bv o2::[bv o3,bv o4,bv o5,bv o6,bv o7,bv o8,bv o9,bv o10,bv o11,bv o12,bv o13,bv o14,bv o15,bv o16,bv o17,bv o18,bv o19,bv o20,bv o21,bv o22,bv o23,bv o24,bv o25,bv o26,bv o27,bv o28,.int .u8 0,.int .u8 0,.int .u8 0,.int .u8 0]).toArray (bv o1::bv o2::[bv o3,bv o4,bv o5,bv o6,bv o7,bv o8,bv o9,bv o10,bv o11,bv o12,bv o13,bv o14,bv o15,bv o16,bv o17,bv o18,bv o19,bv o20,bv o21,bv o22,bv o23,bv o24,bv o25,bv o26,bv o27,bv o28,bv o29,.int .u8 0,.int .u8 0,.int .u8 0]).toArray (wO 28 5 (bv o29) rfl) ?_
 refine Sy.nil<|Sy.in_<|Sy.then_<|Sy.region ?_
 refine sP (.int .i64 28)<|sP (.int .i64 29)<|sP (.int .i64 29) ?_
 refine Sy.nil<|Sy.again ?_
 refine Sy.tidyR (G:=[(0,.slice (some ⟨ga,oa,none⟩) 33 cb),(2,.pointer (some ⟨g0,0,none⟩)),(4,.pointer (some ⟨g1,0,none⟩)),(5,.int .i64 29)]) (M:=[(g0,65,(pcs 0 0 false)),(g1,220,(bv o1::bv o2::[bv o3,bv o4,bv o5,bv o6,bv o7,bv o8,bv o9,bv o10,bv o11,bv o12,bv o13,bv o14,bv o15,bv o16,bv o17,bv o18,bv o19,bv o20,bv o21,bv o22,bv o23,bv o24,bv o25,bv o26,bv o27,bv o28,bv o29,.int .u8 0,.int .u8 0,.int .u8 0]).toArray)]) [true,true] kR (all_cons kR (all_cons kR (all_cons kR (all_cons kR all_nil)))) ?_
 refine Sy.round<|Sy.seq<|sC ?_
 refine sP (.int .i64 29)<|sP (.bool true) ?_
 refine sG<|sT<|Sy.skip<|Sy.then_<|Sy.seq<|Sy.block<|Sy.region ?_
 refine sP (.int .i64 29)<|sP (.slice (some ⟨ga,oa,none⟩) 33 cb)<|sP (.int .i64 29)<|sP (.int .i64 30)<|sS (.pointer (some ⟨ga,oa+30,none⟩)) (Quiet.pure (λw=>exec_index 27 _ _ ga (oa) 33 (cb) 30 rfl kR kR kR kF (by decide) w))<|sS (bv o30) (Quiet.thereOne ga (oa+30) 5 _ _ rfl kR hs.1 _ (src_one hs 30 _ kR) Tryz.underlying5 rfl)<|sP (.pointer (some ⟨g1,29,none⟩))<|sW 1 g1 220 (bv o1::bv o2::[bv o3,bv o4,bv o5,bv o6,bv o7,bv o8,bv o9,bv o10,bv o11,bv o12,bv o13,bv o14,bv o15,bv o16,bv o17,bv o18,bv o19,bv o20,bv o21,bv o22,bv o23,bv o24,bv o25,bv o26,bv o27,bv o28,bv o29,.int .u8 0,.int .u8 0,.int .u8 0]).toArray (bv o1::bv o2::[bv o3,bv o4,bv o5,bv o6,bv o7,bv o8,bv o9,bv o10,bv o11,bv o12,bv o13,bv o14,bv o15,bv o16,bv o17,bv o18,bv o19,bv o20,bv o21,bv o22,bv o23,bv o24,bv o25,bv o26,bv o27,bv o28,bv o29,bv o30,.int .u8 0,.int .u8 0]).toArray (wO 29 5 (bv o30) rfl) ?_
 refine Sy.nil<|Sy.in_<|Sy.then_<|Sy.region ?_
 refine sP (.int .i64 29)<|sP (.int .i64 30)<|sP (.int .i64 30) ?_
 refine Sy.nil<|Sy.again ?_
 refine Sy.tidyR (G:=[(0,.slice (some ⟨ga,oa,none⟩) 33 cb),(2,.pointer (some ⟨g0,0,none⟩)),(4,.pointer (some ⟨g1,0,none⟩)),(5,.int .i64 30)]) (M:=[(g0,65,(pcs 0 0 false)),(g1,220,(bv o1::bv o2::[bv o3,bv o4,bv o5,bv o6,bv o7,bv o8,bv o9,bv o10,bv o11,bv o12,bv o13,bv o14,bv o15,bv o16,bv o17,bv o18,bv o19,bv o20,bv o21,bv o22,bv o23,bv o24,bv o25,bv o26,bv o27,bv o28,bv o29,bv o30,.int .u8 0,.int .u8 0]).toArray)]) [true,true] kR (all_cons kR (all_cons kR (all_cons kR (all_cons kR all_nil)))) ?_
 refine Sy.round<|Sy.seq<|sC ?_
 refine sP (.int .i64 30)<|sP (.bool true) ?_
 refine sG<|sT<|Sy.skip<|Sy.then_<|Sy.seq<|Sy.block<|Sy.region ?_
 refine sP (.int .i64 30)<|sP (.slice (some ⟨ga,oa,none⟩) 33 cb)<|sP (.int .i64 30)<|sP (.int .i64 31)<|sS (.pointer (some ⟨ga,oa+31,none⟩)) (Quiet.pure (λw=>exec_index 27 _ _ ga (oa) 33 (cb) 31 rfl kR kR kR kF (by decide) w))<|sS (bv o31) (Quiet.thereOne ga (oa+31) 5 _ _ rfl kR hs.1 _ (src_one hs 31 _ kR) Tryz.underlying5 rfl)<|sP (.pointer (some ⟨g1,30,none⟩))<|sW 1 g1 220 (bv o1::bv o2::[bv o3,bv o4,bv o5,bv o6,bv o7,bv o8,bv o9,bv o10,bv o11,bv o12,bv o13,bv o14,bv o15,bv o16,bv o17,bv o18,bv o19,bv o20,bv o21,bv o22,bv o23,bv o24,bv o25,bv o26,bv o27,bv o28,bv o29,bv o30,.int .u8 0,.int .u8 0]).toArray (bv o1::bv o2::[bv o3,bv o4,bv o5,bv o6,bv o7,bv o8,bv o9,bv o10,bv o11,bv o12,bv o13,bv o14,bv o15,bv o16,bv o17,bv o18,bv o19,bv o20,bv o21,bv o22,bv o23,bv o24,bv o25,bv o26,bv o27,bv o28,bv o29,bv o30,bv o31,.int .u8 0]).toArray (wO 30 5 (bv o31) rfl) ?_
 refine Sy.nil<|Sy.in_<|Sy.then_<|Sy.region ?_
 refine sP (.int .i64 30)<|sP (.int .i64 31)<|sP (.int .i64 31) ?_
 refine Sy.nil<|Sy.again ?_
 refine Sy.tidyR (G:=[(0,.slice (some ⟨ga,oa,none⟩) 33 cb),(2,.pointer (some ⟨g0,0,none⟩)),(4,.pointer (some ⟨g1,0,none⟩)),(5,.int .i64 31)]) (M:=[(g0,65,(pcs 0 0 false)),(g1,220,(bv o1::bv o2::[bv o3,bv o4,bv o5,bv o6,bv o7,bv o8,bv o9,bv o10,bv o11,bv o12,bv o13,bv o14,bv o15,bv o16,bv o17,bv o18,bv o19,bv o20,bv o21,bv o22,bv o23,bv o24,bv o25,bv o26,bv o27,bv o28,bv o29,bv o30,bv o31,.int .u8 0]).toArray)]) [true,true] kR (all_cons kR (all_cons kR (all_cons kR (all_cons kR all_nil)))) ?_
 refine Sy.round<|Sy.seq<|sC ?_
 refine sP (.int .i64 31)<|sP (.bool true) ?_
 refine sG<|sT<|Sy.skip<|Sy.then_<|Sy.seq<|Sy.block<|Sy.region ?_
 refine sP (.int .i64 31)<|sP (.slice (some ⟨ga,oa,none⟩) 33 cb)<|sP (.int .i64 31)<|sP (.int .i64 32)<|sS (.pointer (some ⟨ga,oa+32,none⟩)) (Quiet.pure (λw=>exec_index 27 _ _ ga (oa) 33 (cb) 32 rfl kR kR kR kF (by decide) w))<|sS (bv o32) (Quiet.thereOne ga (oa+32) 5 _ _ rfl kR hs.1 _ (src_one hs 32 _ kR) Tryz.underlying5 rfl)<|sP (.pointer (some ⟨g1,31,none⟩))<|sW 1 g1 220 (bv o1::bv o2::[bv o3,bv o4,bv o5,bv o6,bv o7,bv o8,bv o9,bv o10,bv o11,bv o12,bv o13,bv o14,bv o15,bv o16,bv o17,bv o18,bv o19,bv o20,bv o21,bv o22,bv o23,bv o24,bv o25,bv o26,bv o27,bv o28,bv o29,bv o30,bv o31,.int .u8 0]).toArray (bv o1::bv o2::[bv o3,bv o4,bv o5,bv o6,bv o7,bv o8,bv o9,bv o10,bv o11,bv o12,bv o13,bv o14,bv o15,bv o16,bv o17,bv o18,bv o19,bv o20,bv o21,bv o22,bv o23,bv o24,bv o25,bv o26,bv o27,bv o28,bv o29,bv o30,bv o31,bv o32]).toArray (wO 31 5 (bv o32) rfl) ?_
 refine Sy.nil<|Sy.in_<|Sy.then_<|Sy.region ?_
 refine sP (.int .i64 31)<|sP (.int .i64 32)<|sP (.int .i64 32) ?_
 refine Sy.nil<|Sy.again ?_
 refine Sy.tidyR (G:=[(0,.slice (some ⟨ga,oa,none⟩) 33 cb),(2,.pointer (some ⟨g0,0,none⟩)),(4,.pointer (some ⟨g1,0,none⟩)),(5,.int .i64 32)]) (M:=[(g0,65,(pcs 0 0 false)),(g1,220,(bv o1::bv o2::[bv o3,bv o4,bv o5,bv o6,bv o7,bv o8,bv o9,bv o10,bv o11,bv o12,bv o13,bv o14,bv o15,bv o16,bv o17,bv o18,bv o19,bv o20,bv o21,bv o22,bv o23,bv o24,bv o25,bv o26,bv o27,bv o28,bv o29,bv o30,bv o31,bv o32]).toArray)]) [true,true] kR (all_cons kR (all_cons kR (all_cons kR (all_cons kR all_nil)))) ?_
 refine Sy.round<|Sy.seq<|sC ?_
 refine sP (.int .i64 32)<|sP (.bool false) ?_
 refine sG<|sU<|Sy.exit<|Sy.then_exit<|Sy.then_exit<|Sy.in_exit<|sB ?_
 refine sS (.agg ((bv o1::bv o2::[bv o3,bv o4,bv o5,bv o6,bv o7,bv o8,bv o9,bv o10,bv o11,bv o12,bv o13,bv o14,bv o15,bv o16,bv o17,bv o18,bv o19,bv o20,bv o21,bv o22,bv o23,bv o24,bv o25,bv o26,bv o27,bv o28,bv o29,bv o30,bv o31,bv o32]):List Value).toArray) (qL 1 g1 0 32 220 220 (bv o1::bv o2::[bv o3,bv o4,bv o5,bv o6,bv o7,bv o8,bv o9,bv o10,bv o11,bv o12,bv o13,bv o14,bv o15,bv o16,bv o17,bv o18,bv o19,bv o20,bv o21,bv o22,bv o23,bv o24,bv o25,bv o26,bv o27,bv o28,bv o29,bv o30,bv o31,bv o32]).toArray rfl Tryz.underlying220)<|sS (.tuple #[pv px py pi,.bool kb]) (qF 254 #[.agg ((bv o1::bv o2::[bv o3,bv o4,bv o5,bv o6,bv o7,bv o8,bv o9,bv o10,bv o11,bv o12,bv o13,bv o14,bv o15,bv o16,bv o17,bv o18,bv o19,bv o20,bv o21,bv o22,bv o23,bv o24,bv o25,bv o26,bv o27,bv o28,bv o29,bv o30,bv o31,bv o32]):List Value).toArray] (cL))<|sP (.tuple #[pv px py pi,.bool kb])<|sP (pv px py pi)<|sP (.bool kb) ?_
 refine sM 65 (pcs 0 0 false) (λg2=>?_)
 refine sW 2 g2 65 (pcs 0 0 false) (pcs px py pi) (wS 0 65 (pcs px py pi) rfl)<|sP (.bool kb) ?_
 refine sH (λj=>false) ?_
 refine sD 0 rfl (pv 0 0 true) (qF 248 #[] (zeroR_c))<|sD 1 rfl (pv px py pi) (qL 2 g2 0 9 65 65 (pcs px py pi) rfl Tryz.underlying65)<|sD 2 rfl (pv px py pi) (qL 2 g2 0 9 65 65 (pcs px py pi) rfl Tryz.underlying65)<|sD 3 rfl (pv nx ny ni) (qF 255 #[pv px py pi] (cN)) ?_
 refine Sy.makeD 4 rfl kR kR 65 (pwr 0 0 true++(pwr px py pi++(pwr nx ny ni))).toArray (λg=>.slice (some ⟨g,0,none⟩) 3 3) kF (λg3=>?_)
 refine sZ 5 rfl (.slice (some ⟨g3,0,none⟩) 3 3) ?_
 refine sI ?_
 refine Sy.seq<|sC ?_
 refine sP (.int .i64 0) ?_
 refine sG<|Sy.block ?_
 refine Sy.loopN 4 ?_
 refine Sy.tidyR (G:=[(0,.slice (some ⟨ga,oa,none⟩) 33 cb),(2,.pointer (some ⟨g0,0,none⟩)),(8,.slice (some ⟨g3,0,none⟩) 3 3),(9,.int .i64 0)]) (M:=[(g0,65,(pcs 0 0 false)),(g3,65,(pwr 0 0 true++(pwr px py pi++(pwr nx ny ni))).toArray)]) [true,false,false,true] kR (all_cons kR (all_cons kR (all_cons kR (all_cons kR all_nil)))) ?_
 refine Sy.round<|Sy.seq<|sC ?_
 refine sP (.int .i64 0)<|sP (.bool true) ?_
 refine sG<|sT<|Sy.skip<|Sy.then_<|Sy.seq<|Sy.block<|Sy.seq ?_
 refine Sy.regionD (λj=>false) kR ?_
 refine sZ 0 rfl (.slice (some ⟨g3,0,none⟩) 3 3)<|sZ 1 rfl (.int .i64 0)<|sZ 2 rfl (.pointer (some ⟨g3,0,none⟩))<|sD 3 rfl (pv 0 0 true) (qL 1 g3 0 9 65 65 (pwr 0 0 true++(pwr px py pi++(pwr nx ny ni))).toArray rfl Tryz.underlying65)<|sZ 6 rfl (.slice (some ⟨ga,oa,none⟩) 33 cb)<|sD 7 rfl (.string ⟨((o0::o1::o2::[o3,o4,o5,o6,o7,o8,o9,o10,o11,o12,o13,o14,o15,o16,o17,o18,o19,o20,o21,o22,o23,o24,o25,o26,o27,o28,o29,o30,o31,o32])).toArray⟩) (str_src (some ⟨ga,oa,none⟩) (o0::o1::o2::[o3,o4,o5,o6,o7,o8,o9,o10,o11,o12,o13,o14,o15,o16,o17,o18,o19,o20,o21,o22,o23,o24,o25,o26,o27,o28,o29,o30,o31,o32]) 33 cb _ rfl rfl rfl (by decide) hsr) ?_
 refine Sy.callND 4 rfl kR kR 223 #[pv 0 0 true] kF (λvq Mq=>∃ (g:Nat) (sp:List Value) (cap:Nat),vq=.slice (some ⟨g,0,none⟩) 33 cap∧Mq=[(g,5,((encS none).map bv++sp).toArray)]) (λw _=>cE0 w) (λvq Mq hR0=>?_)
 obtain ⟨gq1,spq1,cpq1,rfl,rfl⟩:=hR0
 refine sD 5 rfl (.string ⟨((encS none)).toArray⟩) (str_own 2 gq1 5 (encS none) spq1 33 cpq1 _ rfl rfl kR (encS_length _) (by decide)) ?_
 obtain ⟨b1,hb1⟩:∃ z:Bool,z=decide ((encS none)=(o0::o1::o2::[o3,o4,o5,o6,o7,o8,o9,o10,o11,o12,o13,o14,o15,o16,o17,o18,o19,o20,o21,o22,o23,o24,o25,o26,o27,o28,o29,o30,o31,o32])):=⟨_,rfl⟩
 refine sD 8 rfl (.bool b1) (Quiet.pure (λw=>by rw [hb1]; exact eql_str w _ _ _ _ _ _ rfl rfl rfl)) ?_
 refine sI ?_
 cases b1
 ·refine sU<|Sy.skip<|Sy.in_<|Sy.then_<|Sy.region ?_
  refine sP (.int .i64 0)<|sP (.int .i64 1)<|sP (.int .i64 1) ?_
  refine Sy.nil<|Sy.again ?_
  refine Sy.tidyR (G:=[(0,.slice (some ⟨ga,oa,none⟩) 33 cb),(2,.pointer (some ⟨g0,0,none⟩)),(8,.slice (some ⟨g3,0,none⟩) 3 3),(9,.int .i64 1)]) (M:=[(g0,65,(pcs 0 0 false)),(g3,65,(pwr 0 0 true++(pwr px py pi++(pwr nx ny ni))).toArray)]) [true,true,false] kR (all_cons kR (all_cons kR (all_cons kR (all_cons kR all_nil)))) ?_
  refine Sy.round<|Sy.seq<|sC ?_
  refine sP (.int .i64 1)<|sP (.bool true) ?_
  refine sG<|sT<|Sy.skip<|Sy.then_<|Sy.seq<|Sy.block<|Sy.seq ?_
  refine Sy.regionD (λj=>false) kR ?_
  refine sZ 0 rfl (.slice (some ⟨g3,0,none⟩) 3 3)<|sZ 1 rfl (.int .i64 1)<|sZ 2 rfl (.pointer (some ⟨g3,9,none⟩))<|sD 3 rfl (pv px py pi) (qL 1 g3 9 9 65 65 (pwr 0 0 true++(pwr px py pi++(pwr nx ny ni))).toArray rfl Tryz.underlying65)<|sZ 6 rfl (.slice (some ⟨ga,oa,none⟩) 33 cb)<|sD 7 rfl (.string ⟨((o0::o1::o2::[o3,o4,o5,o6,o7,o8,o9,o10,o11,o12,o13,o14,o15,o16,o17,o18,o19,o20,o21,o22,o23,o24,o25,o26,o27,o28,o29,o30,o31,o32])).toArray⟩) (str_src (some ⟨ga,oa,none⟩) (o0::o1::o2::[o3,o4,o5,o6,o7,o8,o9,o10,o11,o12,o13,o14,o15,o16,o17,o18,o19,o20,o21,o22,o23,o24,o25,o26,o27,o28,o29,o30,o31,o32]) 33 cb _ rfl rfl rfl (by decide) hsr) ?_
  refine Sy.callND 4 rfl kR kR 223 #[pv px py pi] kF (λvq Mq=>∃ (g:Nat) (sp:List Value) (cap:Nat),vq=.slice (some ⟨g,0,none⟩) 33 cap∧Mq=[(g,5,((encS (liftP tl)).map bv++sp).toArray)]) (λw _=>cE1 w) (λvq Mq hR0=>?_)
  obtain ⟨gq2,spq2,cpq2,rfl,rfl⟩:=hR0
  refine sD 5 rfl (.string ⟨((encS (liftP tl))).toArray⟩) (str_own 2 gq2 5 (encS (liftP tl)) spq2 33 cpq2 _ rfl rfl kR (encS_length _) (by decide)) ?_
  obtain ⟨b2,hb2⟩:∃ z:Bool,z=decide ((encS (liftP tl))=(o0::o1::o2::[o3,o4,o5,o6,o7,o8,o9,o10,o11,o12,o13,o14,o15,o16,o17,o18,o19,o20,o21,o22,o23,o24,o25,o26,o27,o28,o29,o30,o31,o32])):=⟨_,rfl⟩
  refine sD 8 rfl (.bool b2) (Quiet.pure (λw=>by rw [hb2]; exact eql_str w _ _ _ _ _ _ rfl rfl rfl)) ?_
  refine sI ?_
  cases b2
  ·refine sU<|Sy.skip<|Sy.in_<|Sy.then_<|Sy.region ?_
   refine sP (.int .i64 1)<|sP (.int .i64 2)<|sP (.int .i64 2) ?_
   refine Sy.nil<|Sy.again ?_
   refine Sy.tidyR (G:=[(0,.slice (some ⟨ga,oa,none⟩) 33 cb),(2,.pointer (some ⟨g0,0,none⟩)),(8,.slice (some ⟨g3,0,none⟩) 3 3),(9,.int .i64 2)]) (M:=[(g0,65,(pcs 0 0 false)),(g3,65,(pwr 0 0 true++(pwr px py pi++(pwr nx ny ni))).toArray)]) [true,true,false] kR (all_cons kR (all_cons kR (all_cons kR (all_cons kR all_nil)))) ?_
   refine Sy.round<|Sy.seq<|sC ?_
   refine sP (.int .i64 2)<|sP (.bool true) ?_
   refine sG<|sT<|Sy.skip<|Sy.then_<|Sy.seq<|Sy.block<|Sy.seq ?_
   refine Sy.regionD (λj=>false) kR ?_
   refine sZ 0 rfl (.slice (some ⟨g3,0,none⟩) 3 3)<|sZ 1 rfl (.int .i64 2)<|sZ 2 rfl (.pointer (some ⟨g3,18,none⟩))<|sD 3 rfl (pv nx ny ni) (qL 1 g3 18 9 65 65 (pwr 0 0 true++(pwr px py pi++(pwr nx ny ni))).toArray rfl Tryz.underlying65)<|sZ 6 rfl (.slice (some ⟨ga,oa,none⟩) 33 cb)<|sD 7 rfl (.string ⟨((o0::o1::o2::[o3,o4,o5,o6,o7,o8,o9,o10,o11,o12,o13,o14,o15,o16,o17,o18,o19,o20,o21,o22,o23,o24,o25,o26,o27,o28,o29,o30,o31,o32])).toArray⟩) (str_src (some ⟨ga,oa,none⟩) (o0::o1::o2::[o3,o4,o5,o6,o7,o8,o9,o10,o11,o12,o13,o14,o15,o16,o17,o18,o19,o20,o21,o22,o23,o24,o25,o26,o27,o28,o29,o30,o31,o32]) 33 cb _ rfl rfl rfl (by decide) hsr) ?_
   refine Sy.callND 4 rfl kR kR 223 #[pv nx ny ni] kF (λvq Mq=>∃ (g:Nat) (sp:List Value) (cap:Nat),vq=.slice (some ⟨g,0,none⟩) 33 cap∧Mq=[(g,5,((encS (Ec.neg (liftP tl))).map bv++sp).toArray)]) (λw _=>cE2 w) (λvq Mq hR0=>?_)
   obtain ⟨gq3,spq3,cpq3,rfl,rfl⟩:=hR0
   refine sD 5 rfl (.string ⟨((encS (Ec.neg (liftP tl)))).toArray⟩) (str_own 2 gq3 5 (encS (Ec.neg (liftP tl))) spq3 33 cpq3 _ rfl rfl kR (encS_length _) (by decide)) ?_
   obtain ⟨b3,hb3⟩:∃ z:Bool,z=decide ((encS (Ec.neg (liftP tl)))=(o0::o1::o2::[o3,o4,o5,o6,o7,o8,o9,o10,o11,o12,o13,o14,o15,o16,o17,o18,o19,o20,o21,o22,o23,o24,o25,o26,o27,o28,o29,o30,o31,o32])):=⟨_,rfl⟩
   refine sD 8 rfl (.bool b3) (Quiet.pure (λw=>by rw [hb3]; exact eql_str w _ _ _ _ _ _ rfl rfl rfl)) ?_
   refine sI ?_
   cases b3
   ·refine sU<|Sy.skip<|Sy.in_<|Sy.then_<|Sy.region ?_
    refine sP (.int .i64 2)<|sP (.int .i64 3)<|sP (.int .i64 3) ?_
    refine Sy.nil<|Sy.again ?_
    refine Sy.tidyR (G:=[(0,.slice (some ⟨ga,oa,none⟩) 33 cb),(2,.pointer (some ⟨g0,0,none⟩)),(8,.slice (some ⟨g3,0,none⟩) 3 3),(9,.int .i64 3)]) (M:=[(g0,65,(pcs 0 0 false)),(g3,65,(pwr 0 0 true++(pwr px py pi++(pwr nx ny ni))).toArray)]) [true,true,false] kR (all_cons kR (all_cons kR (all_cons kR (all_cons kR all_nil)))) ?_
    refine Sy.round<|Sy.seq<|sC ?_
    refine sP (.int .i64 3)<|sP (.bool false) ?_
    refine sG<|sU<|Sy.exit<|Sy.then_exit<|Sy.then_exit<|Sy.in_exit<|sB ?_
    refine sS (pv 0 0 true) (qF 248 #[] (zeroR_c))<|sW 0 g0 65 (pcs 0 0 false) (pcs 0 0 true) (wS 0 65 (pcs 0 0 true) rfl)<|sP (.bool false) ?_
    refine sG<|Sy.ret ?_
    rw [show (.tuple #[ptv (decP (o0::o1::o2::[o3,o4,o5,o6,o7,o8,o9,o10,o11,o12,o13,o14,o15,o16,o17,o18,o19,o20,o21,o22,o23,o24,o25,o26,o27,o28,o29,o30,o31,o32])),.bool (decOk (o0::o1::o2::[o3,o4,o5,o6,o7,o8,o9,o10,o11,o12,o13,o14,o15,o16,o17,o18,o19,o20,o21,o22,o23,o24,o25,o26,o27,o28,o29,o30,o31,o32]))]:Value)=.tuple #[pv 0 0 true,.bool false] from by
     have hd:decOk (o0::o1::o2::[o3,o4,o5,o6,o7,o8,o9,o10,o11,o12,o13,o14,o15,o16,o17,o18,o19,o20,o21,o22,o23,o24,o25,o26,o27,o28,o29,o30,o31,o32])=false:=by
      unfold decOk
      refine decide_eq_false (λk=>?_)
      rcases cand_or o0 (o1::o2::[o3,o4,o5,o6,o7,o8,o9,o10,o11,o12,o13,o14,o15,o16,o17,o18,o19,o20,o21,o22,o23,o24,o25,o26,o27,o28,o29,o30,o31,o32]) with hc | hc
      ·rw [hc, ← htl] at k
       exact of_decide_eq_false hb3.symm (k.2.trans (by rw [htl]))
      ·rw [hc, ← htl] at k
       exact of_decide_eq_false hb2.symm (k.2.trans (by rw [htl]))
     rw [hd,decP_no hd]; rfl]
    exact Sy.ret2 (v:=pv 0 0 true) (u:=.bool false) rfl (.inl (Res.cell (ty':=65) g0 0 (pcs 0 0 true) _ kR kR Tryz.underlying65 rfl kR kR)) (.inl (show _=_ by kernel_rfl))
   ·refine sT<|sC ?_
    refine sP (.slice (some ⟨g3,0,none⟩) 3 3)<|sP (.int .i64 2)<|sP (.pointer (some ⟨g3,18,none⟩))<|sS (pv nx ny ni) (qL 1 g3 18 9 65 65 (pwr 0 0 true++(pwr px py pi++(pwr nx ny ni))).toArray rfl Tryz.underlying65)<|sW 0 g0 65 (pcs 0 0 false) (pcs nx ny ni) (wS 0 65 (pcs nx ny ni) rfl)<|sP (.bool true) ?_
    refine sG<|Sy.ret<|Sy.in_ret<|Sy.then_ret<|Sy.then_ret<|Sy.in_ret<|Sy.then_ret ?_
    rw [show (.tuple #[ptv (decP (o0::o1::o2::[o3,o4,o5,o6,o7,o8,o9,o10,o11,o12,o13,o14,o15,o16,o17,o18,o19,o20,o21,o22,o23,o24,o25,o26,o27,o28,o29,o30,o31,o32])),.bool (decOk (o0::o1::o2::[o3,o4,o5,o6,o7,o8,o9,o10,o11,o12,o13,o14,o15,o16,o17,o18,o19,o20,o21,o22,o23,o24,o25,o26,o27,o28,o29,o30,o31,o32]))]:Value)=.tuple #[pv nx ny ni,.bool true] from by
     have hd:=dec_enc (P:=(Ec.neg (liftP tl))) (Ec.On.neg (liftP_on tl))
     rw [of_decide_eq_true hb3.symm] at hd
     rw [hd.1,hd.2,en]]
    exact Sy.ret2 (v:=pv nx ny ni) (u:=.bool true) rfl (.inl (Res.cell (ty':=65) g0 0 (pcs nx ny ni) _ kR kR Tryz.underlying65 rfl kR kR)) (.inl (show _=_ by kernel_rfl))
  ·refine sT<|sC ?_
   refine sP (.slice (some ⟨g3,0,none⟩) 3 3)<|sP (.int .i64 1)<|sP (.pointer (some ⟨g3,9,none⟩))<|sS (pv px py pi) (qL 1 g3 9 9 65 65 (pwr 0 0 true++(pwr px py pi++(pwr nx ny ni))).toArray rfl Tryz.underlying65)<|sW 0 g0 65 (pcs 0 0 false) (pcs px py pi) (wS 0 65 (pcs px py pi) rfl)<|sP (.bool true) ?_
   refine sG<|Sy.ret<|Sy.in_ret<|Sy.then_ret<|Sy.then_ret<|Sy.in_ret<|Sy.then_ret ?_
   rw [show (.tuple #[ptv (decP (o0::o1::o2::[o3,o4,o5,o6,o7,o8,o9,o10,o11,o12,o13,o14,o15,o16,o17,o18,o19,o20,o21,o22,o23,o24,o25,o26,o27,o28,o29,o30,o31,o32])),.bool (decOk (o0::o1::o2::[o3,o4,o5,o6,o7,o8,o9,o10,o11,o12,o13,o14,o15,o16,o17,o18,o19,o20,o21,o22,o23,o24,o25,o26,o27,o28,o29,o30,o31,o32]))]:Value)=.tuple #[pv px py pi,.bool true] from by
    have hd:=dec_enc (P:=(liftP tl)) (liftP_on tl)
    rw [of_decide_eq_true hb2.symm] at hd
    rw [hd.1,hd.2,ep]]
   exact Sy.ret2 (v:=pv px py pi) (u:=.bool true) rfl (.inl (Res.cell (ty':=65) g0 0 (pcs px py pi) _ kR kR Tryz.underlying65 rfl kR kR)) (.inl (show _=_ by kernel_rfl))
 ·refine sT<|sC ?_
  refine sP (.slice (some ⟨g3,0,none⟩) 3 3)<|sP (.int .i64 0)<|sP (.pointer (some ⟨g3,0,none⟩))<|sS (pv 0 0 true) (qL 1 g3 0 9 65 65 (pwr 0 0 true++(pwr px py pi++(pwr nx ny ni))).toArray rfl Tryz.underlying65)<|sW 0 g0 65 (pcs 0 0 false) (pcs 0 0 true) (wS 0 65 (pcs 0 0 true) rfl)<|sP (.bool true) ?_
  refine sG<|Sy.ret<|Sy.in_ret<|Sy.then_ret<|Sy.then_ret<|Sy.in_ret<|Sy.then_ret ?_
  rw [show (.tuple #[ptv (decP (o0::o1::o2::[o3,o4,o5,o6,o7,o8,o9,o10,o11,o12,o13,o14,o15,o16,o17,o18,o19,o20,o21,o22,o23,o24,o25,o26,o27,o28,o29,o30,o31,o32])),.bool (decOk (o0::o1::o2::[o3,o4,o5,o6,o7,o8,o9,o10,o11,o12,o13,o14,o15,o16,o17,o18,o19,o20,o21,o22,o23,o24,o25,o26,o27,o28,o29,o30,o31,o32]))]:Value)=.tuple #[pv 0 0 true,.bool true] from by
   have hd:=dec_enc (P:=none) (show Ec.On none from trivial)
   rw [of_decide_eq_true hb1.symm] at hd
   rw [hd.1,hd.2]; rfl]
  exact Sy.ret2 (v:=pv 0 0 true) (u:=.bool true) rfl (.inl (Res.cell (ty':=65) g0 0 (pcs 0 0 true) _ kR kR Tryz.underlying65 rfl kR kR)) (.inl (show _=_ by kernel_rfl))
theorem decodeR_any (w:World) (A:Option Addr) (b:List UInt8) (n c:Nat) (hn:b.length=n) (hs:Src w A b) (hc:n≤c):Calls Tryz.prog 228 #[.slice A n c] w (Gets w (.tuple #[ptv (decP b),.bool (decOk b)])):=by
 by_cases h:n=33
 ·subst h
  have hs':=hs
  obtain ⟨ga,oa,rfl,hl,hcell⟩:=hs (by intro e; rw [e] at hn; cases hn)
  obtain ⟨o0,o1,o2,o3,o4,o5,o6,o7,o8,o9,o10,o11,o12,o13,o14,o15,o16,o17,o18,o19,o20,o21,o22,o23,o24,o25,o26,o27,o28,o29,o30,o31,o32,rfl⟩:=list33 b hn
  exact decR_33 w ga oa c o0 o1 o2 o3 o4 o5 o6 o7 o8 o9 o10 o11 o12 o13 o14 o15 o16 o17 o18 o19 o20 o21 o22 o23 o24 o25 o26 o27 o28 o29 o30 o31 o32 (SrcL.of hl hcell) hs' hc
 ·have hd:decOk b=false:=by unfold decOk; exact decide_eq_false (λk=>h (hn ▸ k.1))
  rw [hd,decP_no hd]
  exact decR_len w A n c h
end Cu
end
section
namespace Wr
open Go.RowKit Sy
set_option maxRecDepth 100000
set_option maxHeartbeats 4000000
theorem wr_must (ok bad:Bool) (b x:Byt) (k:Nat) (h:x.length≤k):Wrote ok x k bad b (bad || !ok) (b++x):=by
 have q:=(Wrote.must ok bad b).then_ (Wrote.raw x (bad || !ok) b h)
 rw [Bool.and_true,List.nil_append,Nat.zero_add] at q
 exact q
theorem pointW_any (w0:Base) (gw:Nat) (bad:Bool) (s:Slc) (R:Blocks) (b:Byt) (p:MPt) (h1:p.x<Cu.K4) (h2:p.y<Cu.K4) (hb:BS s b) (hl:b.length+33≤70368744177000) (w:World) (hw:St w0 w (WB gw bad s R)) :
  Calls Tryz.prog 185 #[ptr gw,.agg (lPT p).toArray] w (Turns w0 (Wd gw R (okPT p) (encPT p) 33 bad b)):=by
 refine Sy.enterT (args:=[ptr gw,.agg (lPT p).toArray]) hw Tryz.func185 rfl kL ?_
 refine sC ?_
 refine sM 65 (lPT p).toArray (λg3=>?_) kR (λw=>run_boxR rfl rfl (by kernel_rfl) (lPT_len p) w)
 refine Sy.permS (M:=WB gw bad s (R++[(g3,65,(lPT p).toArray)])) (List.Perm.of_eq (by simp only [List.append_assoc])) ?_
 have X0:XAt (rdC w0.inn [(g3,65,(lPT p).toArray)]) g3 0 ((lPT p)):=λi u hu=>.inr ⟨_,_,List.mem_singleton.2 rfl,by rw [Nat.zero_add,List.getElem?_toArray]; exact hu⟩
 have X8:XAt (rdC w0.inn [(g3,65,(lPT p).toArray)]) g3 8 [.bool p.i]:=(X0.right (n:=4) rfl).right (n:=4) rfl
 obtain ⟨b1,hb1⟩:∃ z,z=Cu.rightB p.x p.y p.i:=⟨_,rfl⟩
 obtain ⟨ok,hok⟩:∃ z,z=okPT p:=⟨_,rfl⟩
 have e:ok=(b1 && !p.i):=by rw [hok,hb1]; rfl
 refine sA ?_
 refine sp rfl<|sS (.agg (lPT p).toArray) (rowC (R:=[(g3,65,(lPT p).toArray)]) (g:=g3) (f:=0) (k:=9) (cs:=lPT p) X0 (λy hy=>inWB (List.mem_append_right R hy)) (lPT_len p) rfl Tryz.underlying65)<|sS (.bool b1) (qG 222 #[Cu.pv p.x p.y p.i] (λw hw=>by rw [hb1]; exact Cu.rightR_b w _ _ _ h1 h2))<|sp rfl ?_
 rw [← hok]
 cases b1
 case' false =>
  obtain rfl:ok=false:=e
  refine sN<|sN<|sN<|sP (.bool false) ?_
  refine Sy.callT (λw hw=>mustW_any w0.inn gw bad false s (R++[(g3,65,(lPT p).toArray)]) w hw) (λu M hM=>?_)
 case' true =>
  obtain rfl:ok=!p.i:=e
  refine sP (.pointer (some ⟨g3,8,none⟩))<|sS (.bool p.i) (cellC (R:=[(g3,65,(lPT p).toArray)]) (g:=g3) (f:=8) X8.one (λy hy=>inWB (List.mem_append_right R hy)) rfl Tryz.underlying4)<|sP (.bool (!p.i))<|sP (.bool (!p.i)) ?_
  refine Sy.callT (λw hw=>mustW_any w0.inn gw bad (!p.i) s (R++[(g3,65,(lPT p).toArray)]) w hw) (λu M hM=>?_)
 all_goals
  subst hM
  refine Sy.nil<|Sy.then_<|Sy.region ?_
  refine sp rfl<|sS (.agg (lPT p).toArray) (rowC (R:=[(g3,65,(lPT p).toArray)]) (g:=g3) (f:=0) (k:=9) (cs:=lPT p) X0 (λy hy=>inWB (List.mem_append_right R hy)) (lPT_len p) rfl Tryz.underlying65) ?_
  refine Sy.callN kR 223 #[Cu.pv p.x p.y p.i] kF _ (λw' _=>Cu.encW_any w' p.x p.y p.i h1 h2) (λu M hM=>?_)
  obtain ⟨g,sq,cap,rfl,⟨hc1,hc2⟩,rfl⟩:=hM
 ·have hB:BytR (rdC w0.inn ((R++[(g3,65,(lPT p).toArray)])++[(g,5,((encPT p).map bv++sq).toArray)])) (.slice (some ⟨g,0,none⟩) 33 cap) (encPT p):=⟨_,_,_,rfl,by first | exact encPT_len p | exact (encPT_len p).symm,hc1,hc2,λ_=>⟨g,0,rfl,λj y hj=>.inr ⟨5,_,List.mem_append_right _ (List.mem_singleton.2 rfl),by rw [Nat.zero_add,List.getElem?_toArray,List.getElem?_append_left (by rw [List.length_map]; exact (List.getElem?_eq_some_iff.1 hj).1),List.getElem?_map,hj]; rfl⟩⟩⟩
  refine Sy.permS (M:=WB gw (bad || !(!p.i)) s ((R++[(g3,65,(lPT p).toArray)])++[(g,5,((encPT p).map bv++sq).toArray)])) (List.Perm.of_eq (by simp only [List.append_assoc]; rfl)) ?_
  refine Sy.callT (λw hw=>wrawW_any w0.inn gw (bad || !(!p.i)) s ((R++[(g3,65,(lPT p).toArray)])++[(g,5,((encPT p).map bv++sq).toArray)]) b _ (encPT p) hb hB (by rw [encPT_len]; omega) w hw) (λv M hM=>?_)
  obtain ⟨r,hr,rfl⟩:=hM
  refine Sy.nil ?_
  exact Sy.retT0 rfl (WB gw (bad || !(!p.i)) r R) (λ_ h=>dropW (by simpa only [List.append_assoc] using h)) (λ_=>⟨r,bad || !(!p.i),b++encPT p,wr_must (!p.i) bad b (encPT p) 33 (by rw [encPT_len]; exact Nat.le_refl _),hr,rfl⟩)
 ·have hB:BytR (rdC w0.inn ((R++[(g3,65,(lPT p).toArray)])++[(g,5,((encPT p).map bv++sq).toArray)])) (.slice (some ⟨g,0,none⟩) 33 cap) (encPT p):=⟨_,_,_,rfl,by first | exact encPT_len p | exact (encPT_len p).symm,hc1,hc2,λ_=>⟨g,0,rfl,λj y hj=>.inr ⟨5,_,List.mem_append_right _ (List.mem_singleton.2 rfl),by rw [Nat.zero_add,List.getElem?_toArray,List.getElem?_append_left (by rw [List.length_map]; exact (List.getElem?_eq_some_iff.1 hj).1),List.getElem?_map,hj]; rfl⟩⟩⟩
  refine Sy.permS (M:=WB gw (bad || !(false)) s ((R++[(g3,65,(lPT p).toArray)])++[(g,5,((encPT p).map bv++sq).toArray)])) (List.Perm.of_eq (by simp only [List.append_assoc]; rfl)) ?_
  refine Sy.callT (λw hw=>wrawW_any w0.inn gw (bad || !(false)) s ((R++[(g3,65,(lPT p).toArray)])++[(g,5,((encPT p).map bv++sq).toArray)]) b _ (encPT p) hb hB (by rw [encPT_len]; omega) w hw) (λv M hM=>?_)
  obtain ⟨r,hr,rfl⟩:=hM
  refine Sy.nil ?_
  exact Sy.retT0 rfl (WB gw (bad || !(false)) r R) (λ_ h=>dropW (by simpa only [List.append_assoc] using h)) (λ_=>⟨r,bad || !(false),b++encPT p,wr_must (false) bad b (encPT p) 33 (by rw [encPT_len]; exact Nat.le_refl _),hr,rfl⟩)
theorem tagW_any (w0:Base) (gw:Nat) (bad:Bool) (s:Slc) (R:Blocks) (b:Byt) (t:MTag) (h1:t.id.length=32) (h2:t.pt.x<Cu.K4) (h3:t.pt.y<Cu.K4) (hb:BS s b) (hl:b.length+34≤70368744177000) (w:World) (hw:St w0 w (WB gw bad s R)) :
  Calls Tryz.prog 133 #[ptr gw,.agg (cTG t).toArray] w (Turns w0 (Wd gw R (okTG t) (encTG t) 34 bad b)):=by
 obtain ⟨bl,id,p⟩:=t
 dsimp only at h1 h2 h3
 have e1:(id.map bv).length=32:=by rw [List.length_map,h1]
 have hlen:(cTG ⟨bl,id,p⟩).length=42:=cTG_len h1
 refine Sy.enterT (args:=[ptr gw,.agg (cTG ⟨bl,id,p⟩).toArray]) hw Tryz.func133 rfl kL ?_
 refine sC ?_
 refine sM 67 (cTG ⟨bl,id,p⟩).toArray (λg3=>?_) kR (λw=>run_boxR rfl rfl (by kernel_rfl) hlen w)
 refine Sy.permS (M:=WB gw bad s (R++[(g3,67,(cTG ⟨bl,id,p⟩).toArray)])) (List.Perm.of_eq (by simp only [List.append_assoc])) ?_
 have X0:XAt (rdC w0.inn [(g3,67,(cTG ⟨bl,id,p⟩).toArray)]) g3 0 ((cTG ⟨bl,id,p⟩)):=λi u hu=>.inr ⟨_,_,List.mem_singleton.2 rfl,by rw [Nat.zero_add,List.getElem?_toArray]; exact hu⟩
 have Y1:XAt (rdC w0.inn [(g3,67,(cTG ⟨bl,id,p⟩).toArray)]) g3 1 (id.map bv++lPT p):=X0.right (n:=1) rfl
 have X1:=Y1.left
 have X2:XAt (rdC w0.inn [(g3,67,(cTG ⟨bl,id,p⟩).toArray)]) g3 33 (lPT p):=Y1.right e1
 have q0:=Wrote.raw [trB bl] bad b (k:=1) (Nat.le_refl _)
 have l0:(b++[trB bl]).length=b.length+1:=by rw [List.length_append]; rfl
 refine sA ?_
 refine sp rfl<|sP (.pointer (some ⟨g3,0,none⟩))<|sS (.bool bl) (cellC (R:=[(g3,67,(cTG ⟨bl,id,p⟩).toArray)]) (g:=g3) (f:=0) X0.one (λy hy=>inWB (List.mem_append_right R hy)) rfl Tryz.underlying4) ?_
 refine Sy.callT (λw hw=>truthW_any w0.inn gw bad s (R++[(g3,67,(cTG ⟨bl,id,p⟩).toArray)]) b bl hb (by omega) w hw) (λv M hM=>?_)
 obtain ⟨r,k1,rfl⟩:=hM
 refine sG<|Sy.seq<|sC ?_
 refine sP (.pointer (some ⟨g3,0,none⟩))<|sS (.bool bl) (cellC (R:=[(g3,67,(cTG ⟨bl,id,p⟩).toArray)]) (g:=g3) (f:=0) X0.one (λy hy=>inWB (List.mem_append_right R hy)) rfl Tryz.underlying4) ?_
 refine sG ?_
 cases bl
 case' true =>
  refine sT<|sC ?_
  obtain ⟨ok,hok⟩:∃ z:Bool,z=decide (id=z32):=⟨_,rfl⟩
  refine sp rfl<|sP (.pointer (some ⟨g3,1,none⟩))<|sS (.agg (id.map bv).toArray) (rowC (R:=[(g3,67,(cTG ⟨true,id,p⟩).toArray)]) (g:=g3) (f:=1) (k:=32) (cs:=id.map bv) X1 (λy hy=>inWB (List.mem_append_right R hy)) e1 rfl Tryz.underlying37)<|sP (.agg (z32.map bv).toArray)<|sS (.bool ok) (Quiet.pure (λw=>by rw [hok]; exact eql_dgs w _ _ _ _ id z32 h1 rfl rfl rfl rfl)) ?_
  refine Sy.callT (λw hw=>mustW_any w0.inn gw bad ok r (R++[(g3,67,(cTG ⟨true,id,p⟩).toArray)]) w hw) (λu M hM=>?_)
  subst hM
  refine sA ?_
  refine sp rfl<|sP (.pointer (some ⟨g3,33,none⟩))<|sS (.agg (lPT p).toArray) (rowC (R:=[(g3,67,(cTG ⟨true,id,p⟩).toArray)]) (g:=g3) (f:=33) (k:=9) (cs:=lPT p) X2 (λy hy=>inWB (List.mem_append_right R hy)) (lPT_len p) rfl Tryz.underlying65) ?_
  refine Sy.callT (λw hw=>pointW_any w0.inn gw (bad || !ok) r (R++[(g3,67,(cTG ⟨true,id,p⟩).toArray)]) (b++[trB true]) p h2 h3 k1 (by omega) w hw) (λu M hM=>?_)
  obtain ⟨r2,bad2,b2,q2,k2,rfl⟩:=hM
  have q:=q0.then_ ((Wrote.must ok bad (b++[trB true])).then_ q2)
  rw [Bool.true_and,List.nil_append,Nat.zero_add,Bool.and_comm,hok] at q
  refine sG<|Sy.ret<|Sy.then_ret ?_
  exact Sy.retT0 rfl (WB gw bad2 r2 R) (λ_ h=>dropW h) (λ_=>⟨r2,bad2,b2,q,k2,rfl⟩)
 refine sU<|Sy.skip<|sB ?_
 obtain ⟨ok,hok⟩:∃ z:Bool,z=nulPT p:=⟨_,rfl⟩
 refine sp rfl<|sP (.pointer (some ⟨g3,33,none⟩))<|sS (Cu.pv p.x p.y p.i) (rowC (R:=[(g3,67,(cTG ⟨false,id,p⟩).toArray)]) (g:=g3) (f:=33) (k:=9) (cs:=lPT p) X2 (λy hy=>inWB (List.mem_append_right R hy)) (lPT_len p) rfl Tryz.underlying65)<|sP (Cu.pv 0 0 false)<|sS (.bool ok) (Quiet.pure (λw=>by rw [hok]; exact Cu.eql_pt w _ _ _ _ p.x p.y p.i 0 0 false rfl rfl rfl h2 h3 (by decide) (by decide))) ?_
 refine Sy.callT (λw hw=>mustW_any w0.inn gw bad ok r (R++[(g3,67,(cTG ⟨false,id,p⟩).toArray)]) w hw) (λu M hM=>?_)
 subst hM
 refine Sy.nil<|Sy.then_<|Sy.region ?_
 refine sp rfl<|sP (.pointer (some ⟨g3,1,none⟩))<|sS (.agg (id.map bv).toArray) (rowC (R:=[(g3,67,(cTG ⟨false,id,p⟩).toArray)]) (g:=g3) (f:=1) (k:=32) (cs:=id.map bv) X1 (λy hy=>inWB (List.mem_append_right R hy)) e1 rfl Tryz.underlying37) ?_
 refine Sy.callT (λw hw=>digW_any w0.inn gw (bad || !ok) r (R++[(g3,67,(cTG ⟨false,id,p⟩).toArray)]) (b++[trB false]) id h1 k1 (by omega) w hw) (λu M hM=>?_)
 obtain ⟨r2,k2,rfl⟩:=hM
 refine Sy.nil ?_
 have q2:=Wrote.raw id (bad || !ok) (b++[trB false]) (k:=33) (by omega)
 have q:=q0.then_ ((Wrote.must ok bad (b++[trB false])).then_ q2)
 rw [Bool.true_and,Bool.and_true,List.nil_append,Nat.zero_add,hok] at q
 exact Sy.retT0 rfl (WB gw (bad || !ok) r2 R) (λ_ h=>dropW h) (λ_=>⟨r2,bad || !ok,_,by rw [hok]; exact q,k2,rfl⟩)
theorem amountW_any (w0:Base) (gw:Nat) (bad:Bool) (s:Slc) (R:Blocks) (b:Byt) (t:MAmt) (h1:t.value<18446744073709551616) (h2:t.pt.x<Cu.K4) (h3:t.pt.y<Cu.K4) (hb:BS s b) (hl:b.length+34≤70368744177000) (w:World) (hw:St w0 w (WB gw bad s R)) :
  Calls Tryz.prog 134 #[ptr gw,.agg (cAM t).toArray] w (Turns w0 (Wd gw R (okAM t) (encAM t) 34 bad b)):=by
 obtain ⟨bl,id,p⟩:=t
 dsimp only at h1 h2 h3
 have hlen:(cAM ⟨bl,id,p⟩).length=11:=rfl
 refine Sy.enterT (args:=[ptr gw,.agg (cAM ⟨bl,id,p⟩).toArray]) hw Tryz.func134 rfl kL ?_
 refine sC ?_
 refine sM 69 (cAM ⟨bl,id,p⟩).toArray (λg3=>?_) kR (λw=>run_boxR rfl rfl (by kernel_rfl) hlen w)
 refine Sy.permS (M:=WB gw bad s (R++[(g3,69,(cAM ⟨bl,id,p⟩).toArray)])) (List.Perm.of_eq (by simp only [List.append_assoc])) ?_
 have X0:XAt (rdC w0.inn [(g3,69,(cAM ⟨bl,id,p⟩).toArray)]) g3 0 ((cAM ⟨bl,id,p⟩)):=λi u hu=>.inr ⟨_,_,List.mem_singleton.2 rfl,by rw [Nat.zero_add,List.getElem?_toArray]; exact hu⟩
 have X1:XAt (rdC w0.inn [(g3,69,(cAM ⟨bl,id,p⟩).toArray)]) g3 1 ([.int .u64 (id:Int)]++lPT p):=X0.right (n:=1) rfl
 have X2:XAt (rdC w0.inn [(g3,69,(cAM ⟨bl,id,p⟩).toArray)]) g3 2 (lPT p):=X1.right (n:=1) rfl
 have q0:=Wrote.raw [trB bl] bad b (k:=1) (Nat.le_refl _)
 have l0:(b++[trB bl]).length=b.length+1:=by rw [List.length_append]; rfl
 refine sA ?_
 refine sp rfl<|sP (.pointer (some ⟨g3,0,none⟩))<|sS (.bool bl) (cellC (R:=[(g3,69,(cAM ⟨bl,id,p⟩).toArray)]) (g:=g3) (f:=0) X0.one (λy hy=>inWB (List.mem_append_right R hy)) rfl Tryz.underlying4) ?_
 refine Sy.callT (λw hw=>truthW_any w0.inn gw bad s (R++[(g3,69,(cAM ⟨bl,id,p⟩).toArray)]) b bl hb (by omega) w hw) (λv M hM=>?_)
 obtain ⟨r,k1,rfl⟩:=hM
 refine sG<|Sy.seq<|sC ?_
 refine sP (.pointer (some ⟨g3,0,none⟩))<|sS (.bool bl) (cellC (R:=[(g3,69,(cAM ⟨bl,id,p⟩).toArray)]) (g:=g3) (f:=0) X0.one (λy hy=>inWB (List.mem_append_right R hy)) rfl Tryz.underlying4) ?_
 refine sG ?_
 cases bl
 case' true =>
  refine sT<|sC ?_
  obtain ⟨ok,hok⟩:∃ z:Bool,z=decide (id=0):=⟨_,rfl⟩
  refine sp rfl<|sP (.pointer (some ⟨g3,1,none⟩))<|sS (.int .u64 (id:Int)) (cellC (R:=[(g3,69,(cAM ⟨true,id,p⟩).toArray)]) (g:=g3) (f:=1) X1.one (λy hy=>inWB (List.mem_append_right R hy)) rfl Tryz.underlying22)<|sS (.bool ok) (Quiet.pure (exec_int .eql _ _ _ .u64 _ _ _ rfl rfl rfl (int_eql _ _ _ _ _ (by rw [hok]; exact decide_eq_decide.2 (by omega))))) ?_
  refine Sy.callT (λw hw=>mustW_any w0.inn gw bad ok r (R++[(g3,69,(cAM ⟨true,id,p⟩).toArray)]) w hw) (λu M hM=>?_)
  subst hM
  refine sA ?_
  refine sp rfl<|sP (.pointer (some ⟨g3,2,none⟩))<|sS (.agg (lPT p).toArray) (rowC (R:=[(g3,69,(cAM ⟨true,id,p⟩).toArray)]) (g:=g3) (f:=2) (k:=9) (cs:=lPT p) X2 (λy hy=>inWB (List.mem_append_right R hy)) (lPT_len p) rfl Tryz.underlying65) ?_
  refine Sy.callT (λw hw=>pointW_any w0.inn gw (bad || !ok) r (R++[(g3,69,(cAM ⟨true,id,p⟩).toArray)]) (b++[trB true]) p h2 h3 k1 (by omega) w hw) (λu M hM=>?_)
  obtain ⟨r2,bad2,b2,q2,k2,rfl⟩:=hM
  have q:=q0.then_ ((Wrote.must ok bad (b++[trB true])).then_ q2)
  rw [Bool.true_and,List.nil_append,Nat.zero_add,Bool.and_comm,hok] at q
  refine sG<|Sy.ret<|Sy.then_ret ?_
  exact Sy.retT0 rfl (WB gw bad2 r2 R) (λ_ h=>dropW h) (λ_=>⟨r2,bad2,b2,q,k2,rfl⟩)
 refine sU<|Sy.skip<|sB ?_
 obtain ⟨ok,hok⟩:∃ z:Bool,z=nulPT p:=⟨_,rfl⟩
 refine sp rfl<|sP (.pointer (some ⟨g3,2,none⟩))<|sS (Cu.pv p.x p.y p.i) (rowC (R:=[(g3,69,(cAM ⟨false,id,p⟩).toArray)]) (g:=g3) (f:=2) (k:=9) (cs:=lPT p) X2 (λy hy=>inWB (List.mem_append_right R hy)) (lPT_len p) rfl Tryz.underlying65)<|sP (Cu.pv 0 0 false)<|sS (.bool ok) (Quiet.pure (λw=>by rw [hok]; exact Cu.eql_pt w _ _ _ _ p.x p.y p.i 0 0 false rfl rfl rfl h2 h3 (by decide) (by decide))) ?_
 refine Sy.callT (λw hw=>mustW_any w0.inn gw bad ok r (R++[(g3,69,(cAM ⟨false,id,p⟩).toArray)]) w hw) (λu M hM=>?_)
 subst hM
 refine Sy.nil<|Sy.then_<|Sy.region ?_
 refine sp rfl<|sP (.pointer (some ⟨g3,1,none⟩))<|sS (.int .u64 (id:Int)) (cellC (R:=[(g3,69,(cAM ⟨false,id,p⟩).toArray)]) (g:=g3) (f:=1) X1.one (λy hy=>inWB (List.mem_append_right R hy)) rfl Tryz.underlying22) ?_
 refine Sy.callT (λw hw=>numW_any w0.inn gw (bad || !ok) r (R++[(g3,69,(cAM ⟨false,id,p⟩).toArray)]) (b++[trB false]) id 8 h1 (by decide) k1 (by omega) w hw) (λu M hM=>?_)
 obtain ⟨r2,k2,rfl⟩:=hM
 refine Sy.nil ?_
 have q2:=Wrote.raw (nb 8 id) (bad || !ok) (b++[trB false]) (k:=33) (by rw [nb_len]; decide)
 have q:=q0.then_ ((Wrote.must ok bad (b++[trB false])).then_ q2)
 rw [Bool.true_and,Bool.and_true,List.nil_append,Nat.zero_add,hok] at q
 exact Sy.retT0 rfl (WB gw (bad || !ok) r2 R) (λ_ h=>dropW h) (λ_=>⟨r2,bad || !ok,_,by rw [hok]; exact q,k2,rfl⟩)
end Wr
end
section
namespace Wr
open Go.RowKit Sy
set_option maxRecDepth 100000
set_option maxHeartbeats 4000000
theorem outW_any (w0:Base) (gw:Nat) (bad:Bool) (s:Slc) (R:Blocks) (b:Byt) (x:MOu) (cs:List Value) (hx:repOU (rdW w0.world) cs x) (hb:BS s b) (hl:b.length+wtOU x≤70368744160000) (w:World) (hw:St w0 w (WB gw bad s R)) :
  Calls Tryz.prog 70 #[ptr gw,.agg cs.toArray] w (Turns w0 (Wd gw R (okOU x) (encOU x) (wtOU x) bad b)):=by
 obtain ⟨z,ta,am,rg,su,nt,sc⟩:=x
 obtain ⟨vr,vs,vn,vc,hcs,h1,h2,h3,h4,h5,h6⟩:=hx
 dsimp only at h1 h2 h3 h4 h5 h6
 unfold wtOU at hl
 dsimp only at hl
 have hlen:cs.length=58:=by rw [hcs]; simp only [cOU,List.length_append,cTG_len h1.1]; rfl
 refine Sy.enterT (args:=[ptr gw,.agg cs.toArray]) hw Tryz.func70 rfl kL ?_
 refine sC ?_
 refine sM 71 cs.toArray (λg3=>?_) kR (λw=>run_boxR rfl rfl (by kernel_rfl) hlen w)
 refine Sy.permS (M:=WB gw bad s (R++[(g3,71,cs.toArray)])) (List.Perm.of_eq (by simp only [List.append_assoc])) ?_
 have hX:∀ l,l=cs→XAt (rdC w0.inn [(g3,71,cs.toArray)]) g3 0 l:=λl e i u hu=>.inr ⟨_,_,List.mem_singleton.2 rfl,by rw [Nat.zero_add,List.getElem?_toArray, ← e]; exact hu⟩
 have X0:XAt (rdC w0.inn [(g3,71,cs.toArray)]) g3 0 ([.int .i64 z]++(cTG ta++(cAM am++([vr]++([vs]++([vn]++([vc]))))))):=hX _ hcs.symm
 have X1:XAt (rdC w0.inn [(g3,71,cs.toArray)]) g3 1 (cTG ta++(cAM am++([vr]++([vs]++([vn]++([vc])))))):=X0.right (n:=1) rfl
 have X2:XAt (rdC w0.inn [(g3,71,cs.toArray)]) g3 43 (cAM am++([vr]++([vs]++([vn]++([vc]))))):=X1.right (cTG_len h1.1)
 have X3:XAt (rdC w0.inn [(g3,71,cs.toArray)]) g3 54 ([vr]++([vs]++([vn]++([vc])))):=X2.right (n:=11) rfl
 have X4:XAt (rdC w0.inn [(g3,71,cs.toArray)]) g3 55 ([vs]++([vn]++([vc]))):=X3.right (n:=1) rfl
 have X5:XAt (rdC w0.inn [(g3,71,cs.toArray)]) g3 56 ([vn]++([vc])):=X4.right (n:=1) rfl
 have X6:XAt (rdC w0.inn [(g3,71,cs.toArray)]) g3 57 ([vc]):=X5.right (n:=1) rfl
 refine sA ?_
 refine sp rfl<|sP (.pointer (some ⟨g3,0,none⟩))<|sS (.int .i64 z) (cellC (R:=[(g3,71,cs.toArray)]) (g:=g3) (f:=0) X0.one (λy hy=>inWB (List.mem_append_right R hy)) rfl Tryz.underlying3) ?_
 refine Sy.callT (λw hw=>smallW_any w0.inn gw bad s (R++[(g3,71,cs.toArray)]) b 1 4 z hb (by omega) w hw) (λu M hM=>?_)
 obtain ⟨s1,bad1,b1,q1,p1,rfl⟩:=hM
 have l1:b1.length≤b.length+1:=q1.len
 refine sA ?_
 refine sp rfl<|sP (.pointer (some ⟨g3,1,none⟩))<|sS (.agg (cTG ta).toArray) (rowC (R:=[(g3,71,cs.toArray)]) (g:=g3) (f:=1) (k:=42) (cs:=cTG ta) X1.left (λy hy=>inWB (List.mem_append_right R hy)) (cTG_len h1.1) rfl Tryz.underlying67) ?_
 refine Sy.callT (λw hw=>tagW_any w0.inn gw bad1 s1 (R++[(g3,71,cs.toArray)]) b1 ta h1.1 h1.2.1 h1.2.2 p1 (by omega) w hw) (λu M hM=>?_)
 obtain ⟨s2,bad2,b2,q2,p2,rfl⟩:=hM
 have l2:b2.length≤b1.length+34:=q2.len
 refine sA ?_
 refine sp rfl<|sP (.pointer (some ⟨g3,43,none⟩))<|sS (.agg (cAM am).toArray) (rowC (R:=[(g3,71,cs.toArray)]) (g:=g3) (f:=43) (k:=11) (cs:=cAM am) X2.left (λy hy=>inWB (List.mem_append_right R hy)) rfl rfl Tryz.underlying69) ?_
 refine Sy.callT (λw hw=>amountW_any w0.inn gw bad2 s2 (R++[(g3,71,cs.toArray)]) b2 am h2.1 h2.2.1 h2.2.2 p2 (by omega) w hw) (λu M hM=>?_)
 obtain ⟨s3,bad3,b3,q3,p3,rfl⟩:=hM
 have l3:b3.length≤b2.length+34:=q3.len
 refine sA ?_
 refine sp rfl<|sP (.pointer (some ⟨g3,54,none⟩))<|sS vr (cellC (R:=[(g3,71,cs.toArray)]) (g:=g3) (f:=54) X3.one (λy hy=>inWB (List.mem_append_right R hy)) rfl Tryz.underlying27) ?_
 refine Sy.callT (λw hw=>textW_any w0.inn gw bad3 s3 (R++[(g3,71,cs.toArray)]) b3 vr rg 6000 (by decide) p3 h3 (by omega) w hw) (λu M hM=>?_)
 obtain ⟨s4,bad4,b4,q4,p4,rfl⟩:=hM
 have l4:b4.length≤b3.length+(9+rg.length):=q4.len
 refine sA ?_
 refine sp rfl<|sP (.pointer (some ⟨g3,55,none⟩))<|sS vs (cellC (R:=[(g3,71,cs.toArray)]) (g:=g3) (f:=55) X4.one (λy hy=>inWB (List.mem_append_right R hy)) rfl Tryz.underlying27) ?_
 refine Sy.callT (λw hw=>textW_any w0.inn gw bad4 s4 (R++[(g3,71,cs.toArray)]) b4 vs su 6000 (by decide) p4 h4 (by omega) w hw) (λu M hM=>?_)
 obtain ⟨s5,bad5,b5,q5,p5,rfl⟩:=hM
 have l5:b5.length≤b4.length+(9+su.length):=q5.len
 refine sA ?_
 refine sp rfl<|sP (.pointer (some ⟨g3,56,none⟩))<|sS vn (cellC (R:=[(g3,71,cs.toArray)]) (g:=g3) (f:=56) X5.one (λy hy=>inWB (List.mem_append_right R hy)) rfl Tryz.underlying27) ?_
 refine Sy.callT (λw hw=>textW_any w0.inn gw bad5 s5 (R++[(g3,71,cs.toArray)]) b5 vn nt 128 (by decide) p5 h5 (by omega) w hw) (λu M hM=>?_)
 obtain ⟨s6,bad6,b6,q6,p6,rfl⟩:=hM
 have l6:b6.length≤b5.length+(9+nt.length):=q6.len
 refine Sy.nil<|Sy.then_<|Sy.region ?_
 refine sp rfl<|sP (.pointer (some ⟨g3,57,none⟩))<|sS vc (cellC (R:=[(g3,71,cs.toArray)]) (g:=g3) (f:=57) X6.one (λy hy=>inWB (List.mem_append_right R hy)) rfl Tryz.underlying27) ?_
 refine Sy.callT (λw hw=>textW_any w0.inn gw bad6 s6 (R++[(g3,71,cs.toArray)]) b6 vc sc 256 (by decide) p6 h6 (by omega) w hw) (λu M hM=>?_)
 obtain ⟨s7,bad7,b7,q7,p7,rfl⟩:=hM
 have l7:b7.length≤b6.length+(9+sc.length):=q7.len
 refine Sy.nil ?_
 have q:=q1.then_ (q2.then_ (q3.then_ (q4.then_ (q5.then_ (q6.then_ q7)))))
 exact Sy.retT0 rfl (WB gw bad7 s7 R) (λ_ h=>dropW h) (λ_=>⟨s7,bad7,b7,q,p7,rfl⟩)
end Wr
end
section
namespace Wr
open Go.RowKit Sy
set_option maxRecDepth 100000
set_option maxHeartbeats 4000000
theorem lenCF {C:Rdr} {cs:List Value} {t:MCf} (h:repCF C cs t):cs.length=102:=by
 obtain ⟨cp,cm,vc,rfl,h1,_,h3,h4,_⟩:=h
 simp only [List.length_append,List.length_map,h1,lenPA h3,lenMH h4]; rfl
theorem cfgW_any (w0:Base) (gw:Nat) (bad:Bool) (s:Slc) (R:Blocks) (b:Byt) (x:MCf) (cs:List Value) (hx:repCF (rdW w0.world) cs x) (hb:BS s b) (hlo:x.fed.keys.length≤1000000000000) (hco:x.coins.length≤1000000000000) (hl:b.length+wtCF x≤70368744160000) (w:World) (hw:St w0 w (WB gw bad s R)) :
  Calls Tryz.prog 46 #[ptr gw,.agg cs.toArray] w (Turns w0 (Wd gw R (okCF x) (encCF x) (wtCF x) bad b)):=by
 obtain ⟨pg,de,fe,mn,co⟩:=x
 obtain ⟨c_p,c_m,vc,rfl,h1,h2,h3,h4,h5⟩:=hx
 obtain ⟨vk,rfl,k1⟩:=h3
 obtain ⟨rfl,m1,m2,m3,m4⟩:=h4
 obtain ⟨A,n,cp,rfl,n1,n2,n3,n4⟩:=h5
 dsimp only at h1 h2 k1 m1 m2 m3 m4 n1 n4 hlo hco
 unfold wtCF at hl
 dsimp only at hl
 have e0:(pg.map bv).length=32:=by rw [List.length_map,h1]
 have e4:(mn.prev.map bv++(mn.root.map bv++[Value.int .u64 (mn.height:Int),Value.int .u64 (mn.nonce:Int)])).length=66:=by simp only [List.length_append,List.length_map,m1,m2]; rfl
 have hlen:(pg.map bv++([Value.int .u64 (de:Int)]++([Value.int .i64 fe.t,vk]++((mn.prev.map bv++(mn.root.map bv++[Value.int .u64 (mn.height:Int),Value.int .u64 (mn.nonce:Int)]))++[Value.slice A n cp])))).length=102:=by simp only [List.length_append,List.length_map,h1,m1,m2]; rfl
 refine Sy.enterT (args:=[ptr gw,.agg (pg.map bv++([Value.int .u64 (de:Int)]++([Value.int .i64 fe.t,vk]++((mn.prev.map bv++(mn.root.map bv++[Value.int .u64 (mn.height:Int),Value.int .u64 (mn.nonce:Int)]))++[Value.slice A n cp])))).toArray]) hw Tryz.func46 rfl kL ?_
 refine sC ?_
 refine sM 54 (pg.map bv++([Value.int .u64 (de:Int)]++([Value.int .i64 fe.t,vk]++((mn.prev.map bv++(mn.root.map bv++[Value.int .u64 (mn.height:Int),Value.int .u64 (mn.nonce:Int)]))++[Value.slice A n cp])))).toArray (λg3=>?_) kR (λw=>run_boxR rfl rfl (by kernel_rfl) hlen w)
 refine Sy.permS (M:=WB gw bad s (R++[(g3,54,(pg.map bv++([Value.int .u64 (de:Int)]++([Value.int .i64 fe.t,vk]++((mn.prev.map bv++(mn.root.map bv++[Value.int .u64 (mn.height:Int),Value.int .u64 (mn.nonce:Int)]))++[Value.slice A n cp])))).toArray)])) (List.Perm.of_eq (by simp only [List.append_assoc])) ?_
 have X0:XAt (rdC w0.inn [(g3,54,(pg.map bv++([Value.int .u64 (de:Int)]++([Value.int .i64 fe.t,vk]++((mn.prev.map bv++(mn.root.map bv++[Value.int .u64 (mn.height:Int),Value.int .u64 (mn.nonce:Int)]))++[Value.slice A n cp])))).toArray)]) g3 0 (pg.map bv++([Value.int .u64 (de:Int)]++([Value.int .i64 fe.t,vk]++((mn.prev.map bv++(mn.root.map bv++[Value.int .u64 (mn.height:Int),Value.int .u64 (mn.nonce:Int)]))++[Value.slice A n cp])))):=λi u hu=>.inr ⟨_,_,List.mem_singleton.2 rfl,by rw [Nat.zero_add,List.getElem?_toArray]; exact hu⟩
 have X1:XAt (rdC w0.inn [(g3,54,(pg.map bv++([Value.int .u64 (de:Int)]++([Value.int .i64 fe.t,vk]++((mn.prev.map bv++(mn.root.map bv++[Value.int .u64 (mn.height:Int),Value.int .u64 (mn.nonce:Int)]))++[Value.slice A n cp])))).toArray)]) g3 32 ([.int .u64 (de:Int)]++([.int .i64 fe.t,vk]++((mn.prev.map bv++(mn.root.map bv++[Value.int .u64 (mn.height:Int),Value.int .u64 (mn.nonce:Int)]))++[.slice A n cp]))):=X0.right e0
 have X2:XAt (rdC w0.inn [(g3,54,(pg.map bv++([Value.int .u64 (de:Int)]++([Value.int .i64 fe.t,vk]++((mn.prev.map bv++(mn.root.map bv++[Value.int .u64 (mn.height:Int),Value.int .u64 (mn.nonce:Int)]))++[Value.slice A n cp])))).toArray)]) g3 33 ([.int .i64 fe.t,vk]++((mn.prev.map bv++(mn.root.map bv++[Value.int .u64 (mn.height:Int),Value.int .u64 (mn.nonce:Int)]))++[.slice A n cp])):=X1.right (n:=1) rfl
 have X3:XAt (rdC w0.inn [(g3,54,(pg.map bv++([Value.int .u64 (de:Int)]++([Value.int .i64 fe.t,vk]++((mn.prev.map bv++(mn.root.map bv++[Value.int .u64 (mn.height:Int),Value.int .u64 (mn.nonce:Int)]))++[Value.slice A n cp])))).toArray)]) g3 35 ((mn.prev.map bv++(mn.root.map bv++[Value.int .u64 (mn.height:Int),Value.int .u64 (mn.nonce:Int)]))++[.slice A n cp]):=X2.right (n:=2) rfl
 have X4:XAt (rdC w0.inn [(g3,54,(pg.map bv++([Value.int .u64 (de:Int)]++([Value.int .i64 fe.t,vk]++((mn.prev.map bv++(mn.root.map bv++[Value.int .u64 (mn.height:Int),Value.int .u64 (mn.nonce:Int)]))++[Value.slice A n cp])))).toArray)]) g3 101 [.slice A n cp]:=X3.right e4
 obtain ⟨b1,hb1⟩:∃ z,z=b++pg:=⟨_,rfl⟩
 obtain ⟨b2,hb2⟩:∃ z,z=b1++nb 8 de:=⟨_,rfl⟩
 have l1:b1.length=b.length+32:=by rw [hb1,List.length_append,h1]
 have l2:b2.length=b1.length+8:=by rw [hb2,List.length_append,nb_len]
 refine sA ?_
 refine sp rfl<|sP (.pointer (some ⟨g3,0,none⟩))<|sS (.agg (pg.map bv).toArray) (rowC (R:=[(g3,54,(pg.map bv++([Value.int .u64 (de:Int)]++([Value.int .i64 fe.t,vk]++((mn.prev.map bv++(mn.root.map bv++[Value.int .u64 (mn.height:Int),Value.int .u64 (mn.nonce:Int)]))++[Value.slice A n cp])))).toArray)]) (g:=g3) (f:=0) (k:=32) (cs:=pg.map bv) X0.left (λy hy=>inWB (List.mem_append_right R hy)) e0 rfl Tryz.underlying37) ?_
 refine Sy.callT (λw hw=>digW_any w0.inn gw bad s (R++[(g3,54,(pg.map bv++([Value.int .u64 (de:Int)]++([Value.int .i64 fe.t,vk]++((mn.prev.map bv++(mn.root.map bv++[Value.int .u64 (mn.height:Int),Value.int .u64 (mn.nonce:Int)]))++[Value.slice A n cp])))).toArray)]) b pg h1 hb (by omega) w hw) (λu M hM=>?_)
 obtain ⟨r1,p1,rfl⟩:=hM
 rw [← hb1] at p1
 refine sA ?_
 refine sp rfl<|sP (.pointer (some ⟨g3,32,none⟩))<|sS (.int .u64 (de:Int)) (cellC (R:=[(g3,54,(pg.map bv++([Value.int .u64 (de:Int)]++([Value.int .i64 fe.t,vk]++((mn.prev.map bv++(mn.root.map bv++[Value.int .u64 (mn.height:Int),Value.int .u64 (mn.nonce:Int)]))++[Value.slice A n cp])))).toArray)]) (g:=g3) (f:=32) X1.one (λy hy=>inWB (List.mem_append_right R hy)) rfl Tryz.underlying22) ?_
 refine Sy.callT (λw hw=>numW_any w0.inn gw bad r1 (R++[(g3,54,(pg.map bv++([Value.int .u64 (de:Int)]++([Value.int .i64 fe.t,vk]++((mn.prev.map bv++(mn.root.map bv++[Value.int .u64 (mn.height:Int),Value.int .u64 (mn.nonce:Int)]))++[Value.slice A n cp])))).toArray)]) b1 de 8 h2 (by decide) p1 (by omega) w hw) (λu M hM=>?_)
 obtain ⟨r2,p2,rfl⟩:=hM
 rw [← hb2] at p2
 refine sA ?_
 refine sp rfl<|sP (.pointer (some ⟨g3,33,none⟩))<|sS (.agg [.int .i64 fe.t,vk].toArray) (rowC (R:=[(g3,54,(pg.map bv++([Value.int .u64 (de:Int)]++([Value.int .i64 fe.t,vk]++((mn.prev.map bv++(mn.root.map bv++[Value.int .u64 (mn.height:Int),Value.int .u64 (mn.nonce:Int)]))++[Value.slice A n cp])))).toArray)]) (g:=g3) (f:=33) (k:=2) (cs:=[.int .i64 fe.t,vk]) X2.left (λy hy=>inWB (List.mem_append_right R hy)) rfl rfl Tryz.underlying40) ?_
 refine Sy.callT (λw hw=>parW_any w0.inn gw bad r2 (R++[(g3,54,(pg.map bv++([Value.int .u64 (de:Int)]++([Value.int .i64 fe.t,vk]++((mn.prev.map bv++(mn.root.map bv++[Value.int .u64 (mn.height:Int),Value.int .u64 (mn.nonce:Int)]))++[Value.slice A n cp])))).toArray)]) b2 fe vk k1 p2 hlo (by omega) w hw) (λu M hM=>?_)
 obtain ⟨r3,bad3,b3,q3,p3,rfl⟩:=hM
 have l3:b3.length≤b2.length+wtPA fe:=q3.len
 obtain ⟨b4,hb4⟩:∃ z,z=b3++encMH mn:=⟨_,rfl⟩
 have hm80:(encMH mn).length≤80:=by unfold encMH; simp only [List.length_append,nb_len,m1,m2]; omega
 have l4:b4.length≤b3.length+80:=by rw [hb4,List.length_append]; omega
 refine sA ?_
 refine sp rfl<|sP (.pointer (some ⟨g3,35,none⟩))<|sS (.agg (mn.prev.map bv++(mn.root.map bv++[Value.int .u64 (mn.height:Int),Value.int .u64 (mn.nonce:Int)])).toArray) (rowC (R:=[(g3,54,(pg.map bv++([Value.int .u64 (de:Int)]++([Value.int .i64 fe.t,vk]++((mn.prev.map bv++(mn.root.map bv++[Value.int .u64 (mn.height:Int),Value.int .u64 (mn.nonce:Int)]))++[Value.slice A n cp])))).toArray)]) (g:=g3) (f:=35) (k:=66) (cs:=(mn.prev.map bv++(mn.root.map bv++[Value.int .u64 (mn.height:Int),Value.int .u64 (mn.nonce:Int)]))) X3.left (λy hy=>inWB (List.mem_append_right R hy)) e4 rfl Tryz.underlying52) ?_
 refine Sy.callT (λw hw=>mhdW_any w0.inn gw bad3 r3 (R++[(g3,54,(pg.map bv++([Value.int .u64 (de:Int)]++([Value.int .i64 fe.t,vk]++((mn.prev.map bv++(mn.root.map bv++[Value.int .u64 (mn.height:Int),Value.int .u64 (mn.nonce:Int)]))++[Value.slice A n cp])))).toArray)]) b3 mn m1 m2 m3 m4 p3 (by omega) w hw) (λu M hM=>?_)
 obtain ⟨r4,p4,rfl⟩:=hM
 rw [← hb4] at p4
 refine sA ?_
 refine sp rfl<|sP (.pointer (some ⟨g3,101,none⟩))<|sS (.slice A n cp) (cellC (R:=[(g3,54,(pg.map bv++([Value.int .u64 (de:Int)]++([Value.int .i64 fe.t,vk]++((mn.prev.map bv++(mn.root.map bv++[Value.int .u64 (mn.height:Int),Value.int .u64 (mn.nonce:Int)]))++[Value.slice A n cp])))).toArray)]) (g:=g3) (f:=101) X4.one (λy hy=>inWB (List.mem_append_right R hy)) rfl Tryz.underlying24)<|sP (.int .i64 (n:Int)) ?_
 refine Sy.callT (λw hw=>manyW_any w0.inn gw bad3 r4 (R++[(g3,54,(pg.map bv++([Value.int .u64 (de:Int)]++([Value.int .i64 fe.t,vk]++((mn.prev.map bv++(mn.root.map bv++[Value.int .u64 (mn.height:Int),Value.int .u64 (mn.nonce:Int)]))++[Value.slice A n cp])))).toArray)]) b4 n 64 (by omega) (by decide) p4 (by omega) w hw) (λu M hM=>?_)
 obtain ⟨r5,bad5,b5,q5,p5,rfl⟩:=hM
 have l5:b5.length≤b4.length+9:=q5.len
 refine sA ?_
 refine sP (.int .i64 0) ?_
 refine sG<|Sy.block ?_
 have hsum:∀ i,((co.take i).map wtOU).sum≤(co.map wtOU).sum:=λi=>by
  have e:=congrArg (λz=>(z.map wtOU).sum) (List.take_append_drop i co)
  simp only [List.map_append,List.sum_append] at e
  omega
 refine Sy.loopT (Y:=Slc×Bool×Byt) n (λi _=>[(0,ptr gw),(3,ptr g3),(4,.int .i64 (i:Int))]) (λ_ y=>WB gw y.2.1 y.1 (R++[(g3,54,(pg.map bv++([Value.int .u64 (de:Int)]++([Value.int .i64 fe.t,vk]++((mn.prev.map bv++(mn.root.map bv++[Value.int .u64 (mn.height:Int),Value.int .u64 (mn.nonce:Int)]))++[Value.slice A n cp])))).toArray)])) (λi y=>Wrote ((co.take i).all okOU) ((co.take i).flatMap encOU) (((co.take i).map wtOU).sum) bad5 b5 y.2.1 y.2.2∧BS y.1 y.2.2) (r5,bad5,b5) ⟨by
  have e:=Wrote.raw [] bad5 b5 (k:=0) (Nat.le_refl 0)
  rw [List.append_nil] at e
  exact e,p5⟩ (all_cons kR (all_cons kR (all_cons kR all_nil))) (λ_ h=>h) (λi y hi hy=>?_)
 obtain ⟨sy,bady,by_⟩:=y
 obtain ⟨hy,hsy⟩:=hy
 dsimp only at hy hsy ⊢
 refine Sy.seq<|sC ?_
 obtain ⟨b9,hb9⟩:∃ z:Bool,z=decide (i<n):=⟨_,rfl⟩
 refine sp rfl<|sP (.pointer (some ⟨g3,101,none⟩))<|sS (.slice A n cp) (cellC (R:=[(g3,54,(pg.map bv++([Value.int .u64 (de:Int)]++([Value.int .i64 fe.t,vk]++((mn.prev.map bv++(mn.root.map bv++[Value.int .u64 (mn.height:Int),Value.int .u64 (mn.nonce:Int)]))++[Value.slice A n cp])))).toArray)]) (g:=g3) (f:=101) X4.one (λy hy=>inWB (List.mem_append_right R hy)) rfl Tryz.underlying24)<|sP (.int .i64 (n:Int))<|sS (.bool b9) (Quiet.pure (exec_int .lss _ _ _ .i64 _ _ _ rfl rfl rfl (int_lss _ _ _ _ _ (by rw [hb9]; exact decide_eq_decide.2 (by omega))))) ?_
 refine sG ?_
 cases b9
 case' false =>
  have z3:¬ i<n:=of_decide_eq_false hb9.symm
  obtain rfl:i=n:=by omega
  rw [List.take_of_length_le (by omega)] at hy
  refine sU<|Sy.exit<|Sy.then_exit<|Sy.then_exit<|Sy.in_exit ?_
  have q1:=Wrote.raw pg bad b (k:=32) (by omega)
  have q2:=Wrote.raw (nb 8 de) bad b1 (k:=8) (by rw [nb_len]; exact Nat.le_refl _)
  have q4:=Wrote.raw (encMH mn) bad3 b3 (k:=80) hm80
  rw [← hb1] at q1
  rw [← hb2] at q2
  rw [← hb4] at q4
  have q:=q1.then_ (q2.then_ (q3.then_ (q4.then_ (q5.then_ hy))))
  rw [Bool.true_and,Bool.true_and,Bool.true_and, ← n1] at q
  exact Sy.retT0 rfl (WB gw bady sy R) (λ_ h=>dropW h) (λ_=>⟨sy,bady,by_,q,hsy,rfl⟩)
 have z3:i<n:=of_decide_eq_true hb9.symm
 obtain ⟨x,hx⟩:∃ x,co[i]? = some x:=⟨_,List.getElem?_eq_getElem (by omega)⟩
 obtain ⟨g,o,hA,hq⟩:=n4 (by intro e; rw [e] at hx; cases hx)
 obtain ⟨cx,y1,y2,y3,y4⟩:=hq i x hx
 have d1:XAt (rdC w0.inn []) g (o+i*58) cx:=λj u hu=>.inl (y4 j u hu)
 have htk:co.take (i+1)=co.take i++[x]:=by rw [List.take_add_one,hx]; rfl
 have hsi:=hsum (i+1)
 rw [htk] at hsi
 simp only [List.map_append,List.sum_append,List.map_cons,List.map_nil,List.sum_cons,List.sum_nil] at hsi
 have hyl:=hy.len
 refine sT<|Sy.skip<|Sy.then_<|Sy.seq<|Sy.block<|Sy.region ?_
 refine sp rfl<|sP (.pointer (some ⟨g3,101,none⟩))<|sS (.slice A n cp) (cellC (R:=[(g3,54,(pg.map bv++([Value.int .u64 (de:Int)]++([Value.int .i64 fe.t,vk]++((mn.prev.map bv++(mn.root.map bv++[Value.int .u64 (mn.height:Int),Value.int .u64 (mn.nonce:Int)]))++[Value.slice A n cp])))).toArray)]) (g:=g3) (f:=101) X4.one (λy hy=>inWB (List.mem_append_right R hy)) rfl Tryz.underlying24)<|sp rfl<|sS (.pointer (some ⟨g,o+i*58,none⟩)) (Quiet.pure (exec_atO 24 _ _ _ A g o n cp i 58 .i64 hA rfl rfl rfl Tryz.underlying24 kF z3))<|sS (.agg cx.toArray) (rowC (R:=[]) d1 (λy hy=>by cases hy) y1 rfl Tryz.underlying71) ?_
 refine Sy.callT (λw hw=>outW_any w0.inn gw bady sy (R++[(g3,54,(pg.map bv++([Value.int .u64 (de:Int)]++([Value.int .i64 fe.t,vk]++((mn.prev.map bv++(mn.root.map bv++[Value.int .u64 (mn.height:Int),Value.int .u64 (mn.nonce:Int)]))++[Value.slice A n cp])))).toArray)]) by_ x cx y3 hsy (by omega) w hw) (λv M hM=>?_)
 obtain ⟨s9,bad9,b9',q9,p9,rfl⟩:=hM
 refine Sy.nil<|Sy.in_<|Sy.then_<|Sy.region ?_
 refine sp rfl<|sS (.int .i64 ((i+1:Nat):Int)) (Quiet.pure (exec_int .add _ _ _ .i64 _ _ _ rfl rfl rfl (int_add _ _ _ _ _ ((wrap_i64 (by omega) (by omega)).trans (by omega)))))<|sp rfl ?_
 refine Sy.nil ?_
 have hW:=hy.then_ q9
 have hW':Wrote ((co.take (i+1)).all okOU) ((co.take (i+1)).flatMap encOU) (((co.take (i+1)).map wtOU).sum) bad5 b5 bad9 b9':=by
  rw [htk]
  simp only [List.all_append,List.flatMap_append,List.map_append,List.sum_append,List.all_cons,List.all_nil,List.flatMap_cons,List.flatMap_nil,List.map_cons,List.map_nil,List.sum_cons,List.sum_nil,Bool.and_true,List.append_nil,Nat.add_zero]
  exact hW
 exact Sy.againT (s9,bad9,b9') z3 ⟨hW',p9⟩ (all_cons kR (all_cons kR (all_cons kR all_nil))) (λw h=>h)
theorem cfgR_w (w:World) (x:MCf) (cs:List Value) (hx:repCF (rdW w) cs x) (hlo:x.fed.keys.length≤1000000000000) (hco:x.coins.length≤1000000000000) (hwt:wtCF x≤70368744160000) :
  Calls Tryz.prog 18 #[.agg cs.toArray] w (GetsN w (BytE (okCF x) (encCF x))):=by
 have hlen:cs.length=102:=by
  exact lenCF hx
 refine Sy.enter (args:=[.agg cs.toArray]) Tryz.func18 rfl kL ?_
 refine sC ?_
 refine sM 54 cs.toArray (λg1=>?_) kR (λw=>run_boxR rfl rfl (by kernel_rfl) hlen w)
 refine sP (.slice none 0 0)<|sP (.int .i64 0) ?_
 refine sA ?_
 refine sP (.agg #[.slice none 0 0,.bool false])<|sM 88 #[.slice none 0 0,.bool false] (λgw=>?_)
 refine sp rfl ?_
 refine sA ?_
 refine Sy.permS (M:=WB gw false nilS [(g1,54,cs.toArray)]) (Sy.perm_at [1,0] (by kernel_rfl) (by rfl)) ?_
 refine sp rfl<|sS (.agg cs.toArray) (Quiet.mid 1 g1 0 102 54 54 cs cs _ _ rfl kR rfl Tryz.underlying54 rfl kR (by rw [List.drop_zero,List.take_of_length_le (by omega)]) (by omega)) ?_
 refine Sy.callT (λw' hw=>cfgW_any (Base.of w) gw false nilS [(g1,54,cs.toArray)] [] x cs hx BS.nil hlo hco (by show 0+_≤_; omega) w' hw) (λu M hM=>?_)
 obtain ⟨s',bad,b',q1,q2,rfl⟩:=hM
 have qb:=q1.bad
 refine sA ?_
 refine sp rfl ?_
 refine Sy.callT (λw' hw=>doneW_any (Base.of w) gw bad s' [(g1,54,cs.toArray)] w' hw) (λu M hM=>?_)
 obtain ⟨rfl,rfl⟩:=hM
 cases bad
 ·have hok:okCF x=true:=by
   cases h:okCF x with
   | true=>rfl
   | false=>rw [h] at qb; cases qb
  have hbb:b'=encCF x:=q1.bytes rfl
  rw [if_neg (by decide)]
  refine sp rfl<|sp rfl<|sp rfl<|sp rfl ?_
  refine sG<|Sy.ret ?_
  exact Sy.retGM2 s'.bl rfl (.inl (show _=_ by kernel_rfl)) (.inl (show _=_ by kernel_rfl)) (λ_ h=>h.less ((List.sublist_append_left _ _).trans (List.sublist_append_right _ _))) (.inl ⟨hok,_,rfl,by rw [← hbb]; exact q2.as⟩)
 ·have hok:okCF x=false:=by
   cases h:okCF x with
   | false=>rfl
   | true=>rw [h] at qb; cases qb
  rw [if_pos rfl]
  refine sp rfl<|sp rfl<|sp rfl<|sp rfl ?_
  refine sG<|Sy.ret ?_
  exact Sy.retGM2 [] rfl (.inl (show _=_ by kernel_rfl)) (.inl (show _=_ by kernel_rfl)) (λ_ h=>h.none) (.inr ⟨hok,rfl,rfl⟩)
end Wr
end
section
namespace Wr
open Go.RowKit Sy
set_option maxRecDepth 100000
set_option maxHeartbeats 4000000
theorem pointM_any (w0:Base) (gr:Nat) (sl:Value) (b:Byt) (at_ e:Nat) (R:Blocks) (hat:at_≤b.length) (he:e≤200) (hl:b.length≤70368744177664) (hv:BytR (rdW w0.world) sl b) (w:World) (hw:St w0 w (RB gr sl at_ e R)) :
  Calls Tryz.prog 189 #[ptr gr] w (Turns w0 (Rfd ptP (λx v N=>v=.agg (lPT x).toArray∧N=[]∧x.x<Cu.K4∧x.y<Cu.K4) gr sl b R at_ e)):=by
 refine Sy.enterT (args:=[ptr gr]) hw Tryz.func189 rfl kL ?_
 refine sC ?_
 refine sM 65 (lPT ⟨0,0,false⟩).toArray (λg2=>?_)
 refine Sy.movT (pre:=[(gr,168,rrC sl at_ e)]) (T:=R) ?_
 refine sA ?_
 refine sp rfl ?_
 refine Sy.callT (λw hw=>rawM_any w0.inn gr sl b at_ e 33 ((g2,65,(lPT ⟨0,0,false⟩).toArray)::R) hat he (by decide) hl hv w hw) (λu M hM=>?_)
 obtain ⟨x,a2,e2,N,q1,⟨q2,q3⟩,q4,q5,rfl⟩:=hM
 obtain ⟨A,n,cp,rfl,k2,k3,k4,k5⟩:=q2.byt
 obtain ⟨gb,ob,rfl,hq⟩:=k5 (by intro h; rw [h] at q3; cases q3)
 obtain ⟨m,hm⟩:∃ m,m=mPt (Cu.decP x):=⟨_,rfl⟩
 obtain ⟨hx,hy⟩:=mPt_lt (Cu.decP x)
 rw [← hm] at hx hy
 obtain ⟨ok,hok⟩:∃ z,z=Cu.decOk x:=⟨_,rfl⟩
 have hz:ok=false→m.i=true:=λh=>by
  rw [hm]; unfold Cu.decP; rw [← hok,h]; rfl
 obtain ⟨mx,my,mi⟩:=m
 dsimp only at hx hy hz
 refine sS (.tuple #[.agg (lPT ⟨mx,my,mi⟩).toArray,.bool ok]) (qG 228 #[.slice (some ⟨gb,ob,none⟩) n cp] (λw' hw'=>by
  rw [hm, ← mPt_val,hok]
  refine Cu.decodeR_any w' (some ⟨gb,ob,none⟩) x n cp (by omega) (λ_=>?_) k3
  have hf:=rdB_world hw' (R:=N) (λy hy=>by simp [hy])
  have hc:∀ j u,x[j]? = some u→gb<w'.heap.size∧w'.cell? ⟨gb,ob+j,none⟩=some (bv u):=λj u hu=>hf _ _ _ (hq j u hu)
  exact ⟨gb,ob,rfl,(hc 0 _ (List.getElem?_eq_getElem (by omega))).1,λj u hu=>(hc j u hu).2⟩))<|sp rfl<|sp rfl<|sp rfl ?_
 refine sM 65 (lPT ⟨0,0,false⟩).toArray (λg3=>?_)
 refine Sy.movT (pre:=[(gr,168,rrC sl a2 e2),(g2,65,(lPT ⟨0,0,false⟩).toArray)]) (T:=R++N) ?_
 refine sw 2 rfl (lPT ⟨mx,my,mi⟩).toArray (Writes.row 65 (lPT ⟨mx,my,mi⟩) 9 _ _ rfl kR kR kR rfl (by kernel_rfl) (lPT_one _))<|sp rfl ?_
 refine sG<|Sy.seq<|sC ?_
 refine sp rfl<|sP (.bool (!ok))<|sP (.bool (!ok)) ?_
 cases ok
 case' false =>
  obtain rfl:mi=true:=hz rfl
  refine sN<|sN<|sP (.bool true) ?_
  refine sG<|sT<|Sy.region ?_
  refine sp rfl ?_
  refine Sy.callT (λw hw=>failM_any w0.inn gr sl a2 e2 ((g2,65,(lPT ⟨0,0,false⟩).toArray)::(g3,65,(lPT ⟨mx,my,true⟩).toArray)::(R++N)) w hw) (λu M hM=>?_)
  subst hM
  refine Sy.nil<|sB ?_
  refine sS (.agg (lPT ⟨mx,my,true⟩).toArray) (Quiet.mid 2 g3 0 9 65 65 (lPT ⟨mx,my,true⟩) (lPT ⟨mx,my,true⟩) _ _ rfl kR rfl Tryz.underlying65 rfl kR (by rw [List.drop_zero]; exact List.take_of_length_le (Nat.le_refl 9)) (Nat.le_refl 9))<|sw 1 rfl (lPT ⟨mx,my,true⟩).toArray (Writes.row 65 (lPT ⟨mx,my,true⟩) 9 _ _ rfl kR kR kR rfl (by kernel_rfl) (lPT_one _)) ?_
  refine sG<|Sy.ret ?_
  have hAf:After ptP ⟨b.drop at_,e⟩ ⟨mx,my,true⟩ ⟨b.drop a2,(if e2=0 then 120 else e2)⟩:=q1.bind (by rw [← hm]; exact After.mustN _ (by show (if e2=0 then 120 else e2)≠0; split <;> omega))
  exact Sy.retT1 (RB gr sl a2 (if e2=0 then 120 else e2) (R++[])) rfl (.inl (Sy.Res.cell (ty':=65) g2 1 (lPT ⟨mx,my,true⟩).toArray _ (by kernel_rfl) rfl Tryz.underlying65 rfl (by kernel_rfl) rfl)) (λ_ h=>by rw [List.append_nil]; exact h.less ((((List.sublist_append_left R N).cons _).cons _).cons_cons _)) ⟨_,a2,(if e2=0 then 120 else e2),[],hAf,⟨rfl,rfl,hx,hy⟩,q4,(by split <;> omega),rfl⟩
 refine sP (.pointer (some ⟨g3,8,none⟩))<|sS (.bool mi) (Quiet.cell 2 g3 8 65 4 (lPT ⟨mx,my,mi⟩).toArray _ _ rfl kR rfl Tryz.underlying4 rfl _ kR)<|sP (.bool mi) ?_
 refine sG ?_
 cases mi
 ·refine sU<|Sy.skip<|sB ?_
  refine sS (.agg (lPT ⟨mx,my,false⟩).toArray) (Quiet.mid 2 g3 0 9 65 65 (lPT ⟨mx,my,false⟩) (lPT ⟨mx,my,false⟩) _ _ rfl kR rfl Tryz.underlying65 rfl kR (by rw [List.drop_zero]; exact List.take_of_length_le (Nat.le_refl 9)) (Nat.le_refl 9))<|sw 1 rfl (lPT ⟨mx,my,false⟩).toArray (Writes.row 65 (lPT ⟨mx,my,false⟩) 9 _ _ rfl kR kR kR rfl (by kernel_rfl) (lPT_one _)) ?_
  refine sG<|Sy.ret ?_
  have hAf:After ptP ⟨b.drop at_,e⟩ ⟨mx,my,false⟩ ⟨b.drop a2,e2⟩:=q1.bind (by rw [← hm]; exact After.ret _ _)
  exact Sy.retT1 (RB gr sl a2 e2 (R++[])) rfl (.inl (Sy.Res.cell (ty':=65) g2 1 (lPT ⟨mx,my,false⟩).toArray _ (by kernel_rfl) rfl Tryz.underlying65 rfl (by kernel_rfl) rfl)) (λ_ h=>by rw [List.append_nil]; exact h.less ((((List.sublist_append_left R N).cons _).cons _).cons_cons _)) ⟨_,a2,e2,[],hAf,⟨rfl,rfl,hx,hy⟩,q4,q5,rfl⟩
 ·refine sT<|Sy.region ?_
  refine sp rfl ?_
  refine Sy.callT (λw hw=>failM_any w0.inn gr sl a2 e2 ((g2,65,(lPT ⟨0,0,false⟩).toArray)::(g3,65,(lPT ⟨mx,my,true⟩).toArray)::(R++N)) w hw) (λu M hM=>?_)
  subst hM
  refine Sy.nil<|sB ?_
  refine sS (.agg (lPT ⟨mx,my,true⟩).toArray) (Quiet.mid 2 g3 0 9 65 65 (lPT ⟨mx,my,true⟩) (lPT ⟨mx,my,true⟩) _ _ rfl kR rfl Tryz.underlying65 rfl kR (by rw [List.drop_zero]; exact List.take_of_length_le (Nat.le_refl 9)) (Nat.le_refl 9))<|sw 1 rfl (lPT ⟨mx,my,true⟩).toArray (Writes.row 65 (lPT ⟨mx,my,true⟩) 9 _ _ rfl kR kR kR rfl (by kernel_rfl) (lPT_one _)) ?_
  refine sG<|Sy.ret ?_
  have hAf:After ptP ⟨b.drop at_,e⟩ ⟨mx,my,true⟩ ⟨b.drop a2,(if e2=0 then 120 else e2)⟩:=q1.bind (by rw [← hm]; exact After.mustN _ (by show (if e2=0 then 120 else e2)≠0; split <;> omega))
  exact Sy.retT1 (RB gr sl a2 (if e2=0 then 120 else e2) (R++[])) rfl (.inl (Sy.Res.cell (ty':=65) g2 1 (lPT ⟨mx,my,true⟩).toArray _ (by kernel_rfl) rfl Tryz.underlying65 rfl (by kernel_rfl) rfl)) (λ_ h=>by rw [List.append_nil]; exact h.less ((((List.sublist_append_left R N).cons _).cons _).cons_cons _)) ⟨_,a2,(if e2=0 then 120 else e2),[],hAf,⟨rfl,rfl,hx,hy⟩,q4,(by split <;> omega),rfl⟩
end Wr
end
section
namespace Wr
open Go.RowKit Sy
set_option maxRecDepth 100000
set_option maxHeartbeats 4000000
theorem fill_nil {place:Nat→Option (Nat×Nat)} {cs:Array Value}:Instr.fill place cs []=some cs:=by unfold Instr.fill; rfl
theorem fill_at {place:Nat→Option (Nat×Nat)} {A B C c:List Value} {v:Value} {i n o:Nat} {rest:List (Nat×Value)} (hp:place i=some (o,n)) (hv:v.cells=c.toArray) (hA:A.length=o) (hB:B.length=n) (hc:c.length=n):Instr.fill place (A++(B++C)).toArray ((i,v)::rest)=Instr.fill place (A++(c++C)).toArray rest:=by
 conv=>lhs; unfold Instr.fill
 rw [hp]
 simp only [hv,List.size_toArray,hc,ne_eq,not_true_eq_false,decide_false,Bool.false_or]
 rw [if_neg (by simp only [List.length_append,hA,hB,decide_eq_true_eq]; omega)]
 have h1:c.toArray.zipIdx.foldl (λcs (x:Value×Nat)=>cs.setIfInBounds (o+x.2) x.1) (A++(B++C)).toArray=setAll (A++(B++C)).toArray (o+0) c:=by
  rw [← fold_all c o 0, ← Array.foldl_toList,Array.toList_zipIdx]
 rw [h1,Nat.add_zero,setAll_mid hA (hB.trans hc.symm)]
theorem Quiet.build1M {P:Program} {w0:Base} {F:Slots} {L:Blocks} {o:Oper} (t:TypeId) (fs:Array Field) (it:TypeInfo) (A B C c:List Value) (v:Value) (i:Nat) (x:Operand) (f n:Nat) (ps:List (Nat×Nat)) (ho:o.op=.build t #[(i,x)]) (hx:evF F x=v) (hv:v.cells=c.toArray) (hu:P.underlying t=some (.struct fs)) (hit:P.info? t=some it) (hz:it.zero=some (.agg (A++(B++C)).toArray))
  (hpl:fs.toList.mapM (λf=>(P.info? f.type).map λi=>(f.offset,i.size))=some ps) (hpi:ps.toArray[i]? = some (f,n)) (hA:A.length=f) (hB:B.length=n) (hc:c.length=n):Quiet P w0 F L o (.agg (A++(c++C)).toArray):=Quiet.pure λw=>by
 have hb:P.built t #[(i,v)].toList=some (A++(c++C)).toArray:=by
  unfold Program.built
  rw [hit,hu]
  simp only [hz,hpl]
  show Instr.fill (λx=>ps.toArray[x]?) (A++(B++C)).toArray [(i,v)]=_
  exact (fill_at (place:=λx=>ps.toArray[x]?) hpi hv hA hB hc).trans fill_nil
 have hr:=run_build (P:=P) w t #[(i,v)] _ hb
 unfold execOp
 simp only [ho,Sem.run_bind,List.map_toArray,List.map_cons,List.map_nil,hx,hr,Result.andThen_ok,Sem.run_pure]
noncomputable def infTG:TypeInfo:=(Tryz.prog.info? 67).getD default
theorem info_tg:Tryz.prog.info? 67=some infTG:=by kernel_rfl
theorem zero_tg:infTG.zero=some (.agg ([Value.bool false]++(Z32++lPT ⟨0,0,false⟩)).toArray):=by kernel_rfl
theorem oneTG {C:Rdr} {cs:List Value} {t:MTag} (h:repTG C cs t):∀ u∈cs,u.oneCell'=true:=by
 obtain ⟨rfl,_⟩:=h
 exact ones_app (λu hu=>by rw [List.mem_singleton.1 hu]; rfl) (ones_app (ones_bW _) (lPT_one _))
theorem oneAM {C:Rdr} {cs:List Value} {t:MAmt} (h:repAM C cs t):∀ u∈cs,u.oneCell'=true:=by
 obtain ⟨rfl,_⟩:=h
 exact ones_app (λu hu=>by rw [List.mem_singleton.1 hu]; rfl) (ones_app (λu hu=>by rw [List.mem_singleton.1 hu]; rfl) (lPT_one _))
theorem tagM_any (w0:Base) (gr:Nat) (sl:Value) (b:Byt) (at_ e:Nat) (R:Blocks) (hat:at_≤b.length) (he:e≤200) (hl:b.length≤70368744177664) (hv:BytR (rdW w0.world) sl b) (w:World) (hw:St w0 w (RB gr sl at_ e R)) :
  Calls Tryz.prog 140 #[ptr gr] w (Turns w0 (Rfd rdTG (rowV 42 repTG) gr sl b R at_ e)):=by
 refine Sy.enterT (args:=[ptr gr]) hw Tryz.func140 rfl kL ?_
 refine sC ?_
 refine sM 67 ([Value.bool false]++(Z32++lPT ⟨0,0,false⟩)).toArray (λg2=>?_)
 refine Sy.movT (pre:=[(gr,168,rrC sl at_ e)]) (T:=R) ?_
 refine sG<|Sy.seq<|sC ?_
 refine sp rfl ?_
 refine Sy.callT (λw hw=>smallM_any 0 1 w0.inn gr sl b at_ e ((g2,67,([Value.bool false]++(Z32++lPT ⟨0,0,false⟩)).toArray)::R) hat he hl hv w hw) (λu M hM=>?_)
 obtain ⟨z1,a1,e1,N1,p1,⟨rfl,rfl⟩,u1,v1_,rfl⟩:=hM
 rw [List.append_nil ((g2,67,([Value.bool false]++(Z32++lPT ⟨0,0,false⟩)).toArray)::R)]
 obtain ⟨x1,hx1⟩:∃ c:Bool,c=decide (z1=1):=⟨_,rfl⟩
 refine sS (.bool x1) (Quiet.pure (exec_int .eql _ _ _ .i64 _ _ _ rfl rfl rfl (int_eql _ _ _ _ _ (hx1.symm)))) ?_
 have p1t:After truP ⟨b.drop at_,e⟩ x1 ⟨b.drop a1,e1⟩:=by rw [← sml_tru,hx1]; exact p1.bind (After.ret _ _)
 refine sG ?_
 cases x1
 case' true =>
  refine sT<|sC ?_
  refine sp rfl ?_
  refine Sy.callT (λw hw=>pointM_any w0.inn gr sl b a1 e1 ((g2,67,([Value.bool false]++(Z32++lPT ⟨0,0,false⟩)).toArray)::R) u1 v1_ hl hv w hw) (λu M hM=>?_)
  obtain ⟨x2,a2,e2,N2,p2,⟨rfl,rfl,hx,hy⟩,u2,v2_,rfl⟩:=hM
  rw [List.append_nil ((g2,67,([Value.bool false]++(Z32++lPT ⟨0,0,false⟩)).toArray)::R)]
  have hrp:repTG (rdB []) (cTG ⟨true,z32,x2⟩) ⟨true,z32,x2⟩:=⟨rfl,rfl,hx,hy⟩
  have hln:(cTG ⟨true,z32,x2⟩).length=42:=rfl
  refine sP (.agg (cTG ⟨true,z32,x2⟩).toArray)<|sw 1 rfl (cTG ⟨true,z32,x2⟩).toArray (Writes.row 67 (cTG ⟨true,z32,x2⟩) 42 _ _ rfl kR kR kR hln (by kernel_rfl) (oneTG hrp)) ?_
  refine sG<|Sy.ret<|Sy.then_ret ?_
  exact Sy.retT1 (RB gr sl a2 e2 (R++[])) rfl (.inl (Sy.Res.cell (ty':=67) g2 1 (cTG ⟨true,z32,x2⟩).toArray _ (by kernel_rfl) rfl Tryz.underlying67 rfl (by rw [List.size_toArray,hln]; kernel_rfl) rfl)) (λ_ h=>by rw [List.append_nil]; exact h.less ((List.Sublist.refl R).cons _ |>.cons_cons _)) ⟨_,a2,e2,[],p1t.bind (by rw [if_pos rfl]; exact p2.bind (After.ret _ _)),⟨(cTG ⟨true,z32,x2⟩),rfl,hln,oneTG hrp,hrp⟩,u2,v2_,rfl⟩
 refine sU<|Sy.skip<|sB ?_
 refine sp rfl ?_
 refine Sy.callT (λw hw=>digM_any w0.inn gr sl b a1 e1 ((g2,67,([Value.bool false]++(Z32++lPT ⟨0,0,false⟩)).toArray)::R) u1 v1_ hl hv w hw) (λu M hM=>?_)
 obtain ⟨x2,a2,e2,N2,p2,⟨rfl,r2,rfl⟩,u2,v2_,rfl⟩:=hM
 rw [List.append_nil ((g2,67,([Value.bool false]++(Z32++lPT ⟨0,0,false⟩)).toArray)::R)]
 have hrp:repTG (rdB []) (cTG ⟨false,x2,⟨0,0,false⟩⟩) ⟨false,x2,⟨0,0,false⟩⟩:=⟨rfl,r2,(show 0<Cu.K4 by decide),(show 0<Cu.K4 by decide)⟩
 have hln:(cTG ⟨false,x2,⟨0,0,false⟩⟩).length=42:=cTG_len r2
 refine sS (.agg (cTG ⟨false,x2,⟨0,0,false⟩⟩).toArray) (Quiet.build1M 67 _ infTG [Value.bool false] Z32 (lPT ⟨0,0,false⟩) (x2.map bv) (.agg (x2.map bv).toArray) 1 _ 1 32 [(0,1),(1,32),(33,9)] rfl kR rfl Tryz.underlying67 info_tg zero_tg (by kernel_rfl) rfl rfl Z32_len ((List.length_map ..).trans r2))<|sw 1 rfl (cTG ⟨false,x2,⟨0,0,false⟩⟩).toArray (Writes.row 67 (cTG ⟨false,x2,⟨0,0,false⟩⟩) 42 _ _ rfl kR kR kR hln (by kernel_rfl) (oneTG hrp)) ?_
 refine sG<|Sy.ret ?_
 exact Sy.retT1 (RB gr sl a2 e2 (R++[])) rfl (.inl (Sy.Res.cell (ty':=67) g2 1 (cTG ⟨false,x2,⟨0,0,false⟩⟩).toArray _ (by kernel_rfl) rfl Tryz.underlying67 rfl (by rw [List.size_toArray,hln]; kernel_rfl) rfl)) (λ_ h=>by rw [List.append_nil]; exact h.less ((List.Sublist.refl R).cons _ |>.cons_cons _)) ⟨_,a2,e2,[],p1t.bind (by rw [if_neg (by decide)]; exact p2.bind (After.ret _ _)),⟨(cTG ⟨false,x2,⟨0,0,false⟩⟩),rfl,hln,oneTG hrp,hrp⟩,u2,v2_,rfl⟩
theorem amountM_any (w0:Base) (gr:Nat) (sl:Value) (b:Byt) (at_ e:Nat) (R:Blocks) (hat:at_≤b.length) (he:e≤200) (hl:b.length≤70368744177664) (hv:BytR (rdW w0.world) sl b) (w:World) (hw:St w0 w (RB gr sl at_ e R)) :
  Calls Tryz.prog 141 #[ptr gr] w (Turns w0 (Rfd rdAM (rowV 11 repAM) gr sl b R at_ e)):=by
 refine Sy.enterT (args:=[ptr gr]) hw Tryz.func141 rfl kL ?_
 refine sC ?_
 refine sM 69 ([Value.bool false]++([Value.int .u64 0]++lPT ⟨0,0,false⟩)).toArray (λg2=>?_)
 refine Sy.movT (pre:=[(gr,168,rrC sl at_ e)]) (T:=R) ?_
 refine sG<|Sy.seq<|sC ?_
 refine sp rfl ?_
 refine Sy.callT (λw hw=>smallM_any 0 1 w0.inn gr sl b at_ e ((g2,69,([Value.bool false]++([Value.int .u64 0]++lPT ⟨0,0,false⟩)).toArray)::R) hat he hl hv w hw) (λu M hM=>?_)
 obtain ⟨z1,a1,e1,N1,p1,⟨rfl,rfl⟩,u1,v1_,rfl⟩:=hM
 rw [List.append_nil ((g2,69,([Value.bool false]++([Value.int .u64 0]++lPT ⟨0,0,false⟩)).toArray)::R)]
 obtain ⟨x1,hx1⟩:∃ c:Bool,c=decide (z1=1):=⟨_,rfl⟩
 refine sS (.bool x1) (Quiet.pure (exec_int .eql _ _ _ .i64 _ _ _ rfl rfl rfl (int_eql _ _ _ _ _ (hx1.symm)))) ?_
 have p1t:After truP ⟨b.drop at_,e⟩ x1 ⟨b.drop a1,e1⟩:=by rw [← sml_tru,hx1]; exact p1.bind (After.ret _ _)
 refine sG ?_
 cases x1
 case' true =>
  refine sT<|sC ?_
  refine sp rfl ?_
  refine Sy.callT (λw hw=>pointM_any w0.inn gr sl b a1 e1 ((g2,69,([Value.bool false]++([Value.int .u64 0]++lPT ⟨0,0,false⟩)).toArray)::R) u1 v1_ hl hv w hw) (λu M hM=>?_)
  obtain ⟨x2,a2,e2,N2,p2,⟨rfl,rfl,hx,hy⟩,u2,v2_,rfl⟩:=hM
  rw [List.append_nil ((g2,69,([Value.bool false]++([Value.int .u64 0]++lPT ⟨0,0,false⟩)).toArray)::R)]
  have hrp:repAM (rdB []) (cAM ⟨true,0,x2⟩) ⟨true,0,x2⟩:=⟨rfl,(show (0:Nat)<18446744073709551616 by decide),hx,hy⟩
  have hln:(cAM ⟨true,0,x2⟩).length=11:=rfl
  refine sP (.agg (cAM ⟨true,0,x2⟩).toArray)<|sw 1 rfl (cAM ⟨true,0,x2⟩).toArray (Writes.row 69 (cAM ⟨true,0,x2⟩) 11 _ _ rfl kR kR kR hln (by kernel_rfl) (oneAM hrp)) ?_
  refine sG<|Sy.ret<|Sy.then_ret ?_
  exact Sy.retT1 (RB gr sl a2 e2 (R++[])) rfl (.inl (Sy.Res.cell (ty':=69) g2 1 (cAM ⟨true,0,x2⟩).toArray _ (by kernel_rfl) rfl Tryz.underlying69 rfl (by rw [List.size_toArray,hln]; kernel_rfl) rfl)) (λ_ h=>by rw [List.append_nil]; exact h.less ((List.Sublist.refl R).cons _ |>.cons_cons _)) ⟨_,a2,e2,[],p1t.bind (by rw [if_pos rfl]; exact p2.bind (After.ret _ _)),⟨(cAM ⟨true,0,x2⟩),rfl,hln,oneAM hrp,hrp⟩,u2,v2_,rfl⟩
 refine sU<|Sy.skip<|sB ?_
 refine sp rfl ?_
 refine Sy.callT (λw hw=>numM_any w0.inn gr sl b a1 e1 8 ((g2,69,([Value.bool false]++([Value.int .u64 0]++lPT ⟨0,0,false⟩)).toArray)::R) u1 v1_ (by decide) hl hv w hw) (λu M hM=>?_)
 obtain ⟨x2,a2,e2,N2,p2,⟨rfl,r2,rfl⟩,u2,v2_,rfl⟩:=hM
 rw [List.append_nil ((g2,69,([Value.bool false]++([Value.int .u64 0]++lPT ⟨0,0,false⟩)).toArray)::R)]
 have hrp:repAM (rdB []) (cAM ⟨false,x2,⟨0,0,false⟩⟩) ⟨false,x2,⟨0,0,false⟩⟩:=⟨rfl,r2,(show 0<Cu.K4 by decide),(show 0<Cu.K4 by decide)⟩
 have hln:(cAM ⟨false,x2,⟨0,0,false⟩⟩).length=11:=rfl
 refine sP (.agg (cAM ⟨false,x2,⟨0,0,false⟩⟩).toArray)<|sw 1 rfl (cAM ⟨false,x2,⟨0,0,false⟩⟩).toArray (Writes.row 69 (cAM ⟨false,x2,⟨0,0,false⟩⟩) 11 _ _ rfl kR kR kR hln (by kernel_rfl) (oneAM hrp)) ?_
 refine sG<|Sy.ret ?_
 exact Sy.retT1 (RB gr sl a2 e2 (R++[])) rfl (.inl (Sy.Res.cell (ty':=69) g2 1 (cAM ⟨false,x2,⟨0,0,false⟩⟩).toArray _ (by kernel_rfl) rfl Tryz.underlying69 rfl (by rw [List.size_toArray,hln]; kernel_rfl) rfl)) (λ_ h=>by rw [List.append_nil]; exact h.less ((List.Sublist.refl R).cons _ |>.cons_cons _)) ⟨_,a2,e2,[],p1t.bind (by rw [if_neg (by decide)]; exact p2.bind (After.ret _ _)),⟨(cAM ⟨false,x2,⟨0,0,false⟩⟩),rfl,hln,oneAM hrp,hrp⟩,u2,v2_,rfl⟩
end Wr
end
section
namespace Wr
open Go.RowKit Sy
set_option maxRecDepth 100000
set_option maxHeartbeats 4000000
theorem sml_kind {α:Type} (f:Int→Ps α):bindP (smlP 1 4) f=bindP octP λk=>bindP (mustP (okK k)) λ_=>f k:=by
 funext l
 cases h:numP 1 l with
 | none =>
  have h1:smlP 1 4 l=none:=by unfold smlP; exact bind_none h
  have h2:octP l=none:=by unfold octP; exact bind_none h
  rw [bind_none h1,bind_none h2]
 | some u =>
  obtain ⟨n,r⟩:=u
  have h2:octP l=some ((n:Int),r):=by unfold octP; rw [bind_some h]; rfl
  rw [bind_some h2]
  by_cases hn:1≤n∧n≤4
  ·have h1:smlP 1 4 l=some ((n:Int),r):=by
    unfold smlP
    rw [bind_some h,decide_eq_true hn]
    rfl
   have hk:okK (n:Int)=true:=by
    unfold okK
    rw [decide_eq_true (show (1:Int)≤n by omega),decide_eq_true (show (n:Int)≤4 by omega)]; rfl
   rw [bind_some h1,hk]
   rfl
  ·have h1:smlP 1 4 l=none:=by
    unfold smlP
    rw [bind_some h,decide_eq_false hn]
    rfl
   have hk:okK (n:Int)=false:=okK_of (by omega)
   rw [bind_none h1,hk]
   rfl
theorem outM_any (w0:Base) (gr:Nat) (sl:Value) (b:Byt) (at_ e:Nat) (R:Blocks) (hat:at_≤b.length) (he:e≤200) (hl:b.length≤70368744177664) (hv:BytR (rdW w0.world) sl b) (w:World) (hw:St w0 w (RB gr sl at_ e R)) :
  Calls Tryz.prog 77 #[ptr gr] w (Turns w0 (Rfd rdOU (rowV 58 repOU) gr sl b R at_ e)):=by
 have L0:([]:List Value).length=0:=rfl
 refine Sy.enterT (args:=[ptr gr]) hw Tryz.func77 rfl kL ?_
 refine sC ?_
 refine sM 71 ((([]:List Value))++([Value.int .i64 0]++(([Value.bool false]++(Z32++lPT ⟨0,0,false⟩))++(([Value.bool false]++([Value.int .u64 0]++lPT ⟨0,0,false⟩))++([Value.slice none 0 0]++([Value.slice none 0 0]++([Value.slice none 0 0]++([Value.slice none 0 0]++(([]:List Value)))))))))).toArray (λg2=>?_)
 refine Sy.movT (pre:=[(gr,168,rrC sl at_ e)]) (T:=R) ?_
 refine sA ?_
 refine sM 71 ((([]:List Value))++([Value.int .i64 0]++(([Value.bool false]++(Z32++lPT ⟨0,0,false⟩))++(([Value.bool false]++([Value.int .u64 0]++lPT ⟨0,0,false⟩))++([Value.slice none 0 0]++([Value.slice none 0 0]++([Value.slice none 0 0]++([Value.slice none 0 0]++(([]:List Value)))))))))).toArray (λg3=>?_)
 refine Sy.movT (pre:=[(gr,168,rrC sl at_ e),(g2,71,((([]:List Value))++([Value.int .i64 0]++(([Value.bool false]++(Z32++lPT ⟨0,0,false⟩))++(([Value.bool false]++([Value.int .u64 0]++lPT ⟨0,0,false⟩))++([Value.slice none 0 0]++([Value.slice none 0 0]++([Value.slice none 0 0]++([Value.slice none 0 0]++(([]:List Value)))))))))).toArray)]) (T:=R) ?_
 refine sA ?_
 refine sp rfl ?_
 refine Sy.callT (λw hw=>smallM_any 1 4 w0.inn gr sl b at_ e ((g2,71,((([]:List Value))++([Value.int .i64 0]++(([Value.bool false]++(Z32++lPT ⟨0,0,false⟩))++(([Value.bool false]++([Value.int .u64 0]++lPT ⟨0,0,false⟩))++([Value.slice none 0 0]++([Value.slice none 0 0]++([Value.slice none 0 0]++([Value.slice none 0 0]++(([]:List Value)))))))))).toArray)::(g3,71,((([]:List Value))++([Value.int .i64 0]++(([Value.bool false]++(Z32++lPT ⟨0,0,false⟩))++(([Value.bool false]++([Value.int .u64 0]++lPT ⟨0,0,false⟩))++([Value.slice none 0 0]++([Value.slice none 0 0]++([Value.slice none 0 0]++([Value.slice none 0 0]++(([]:List Value)))))))))).toArray)::R) hat he hl hv w hw) (λu M hM=>?_)
 obtain ⟨x1,a1,e1,N1,p1,⟨rfl,rfl⟩,u1,v1_,rfl⟩:=hM
 rw [List.append_nil ((g2,71,((([]:List Value))++([Value.int .i64 0]++(([Value.bool false]++(Z32++lPT ⟨0,0,false⟩))++(([Value.bool false]++([Value.int .u64 0]++lPT ⟨0,0,false⟩))++([Value.slice none 0 0]++([Value.slice none 0 0]++([Value.slice none 0 0]++([Value.slice none 0 0]++(([]:List Value)))))))))).toArray)::(g3,71,((([]:List Value))++([Value.int .i64 0]++(([Value.bool false]++(Z32++lPT ⟨0,0,false⟩))++(([Value.bool false]++([Value.int .u64 0]++lPT ⟨0,0,false⟩))++([Value.slice none 0 0]++([Value.slice none 0 0]++([Value.slice none 0 0]++([Value.slice none 0 0]++(([]:List Value)))))))))).toArray)::R)]
 refine sP (.pointer (some ⟨g3,0,none⟩))<|sw 2 rfl ((([]:List Value)++([Value.int .i64 x1]))++(([Value.bool false]++(Z32++lPT ⟨0,0,false⟩))++(([Value.bool false]++([Value.int .u64 0]++lPT ⟨0,0,false⟩))++([Value.slice none 0 0]++([Value.slice none 0 0]++([Value.slice none 0 0]++([Value.slice none 0 0]++(([]:List Value))))))))).toArray (by rw [show ((([]:List Value)++([Value.int .i64 x1]))++(([Value.bool false]++(Z32++lPT ⟨0,0,false⟩))++(([Value.bool false]++([Value.int .u64 0]++lPT ⟨0,0,false⟩))++([Value.slice none 0 0]++([Value.slice none 0 0]++([Value.slice none 0 0]++([Value.slice none 0 0]++(([]:List Value)))))))))=(([]:List Value))++([Value.int .i64 x1]++(([Value.bool false]++(Z32++lPT ⟨0,0,false⟩))++(([Value.bool false]++([Value.int .u64 0]++lPT ⟨0,0,false⟩))++([Value.slice none 0 0]++([Value.slice none 0 0]++([Value.slice none 0 0]++([Value.slice none 0 0]++(([]:List Value))))))))) from List.append_assoc ..]; exact Writes.one 0 3 (.int .i64 x1) _ _ rfl kR kR kR rfl rfl (by rw [List.size_toArray,List.length_append,L0]; exact Nat.lt_add_of_pos_right (Nat.succ_pos _)) (set_mid L0)) ?_
 have L1:(([]:List Value)++([Value.int .i64 x1])).length=1:=by rw [List.length_append,L0]; rfl
 refine sA ?_
 refine sp rfl ?_
 refine Sy.callT (λw hw=>tagM_any w0.inn gr sl b a1 e1 ((g2,71,((([]:List Value))++([Value.int .i64 0]++(([Value.bool false]++(Z32++lPT ⟨0,0,false⟩))++(([Value.bool false]++([Value.int .u64 0]++lPT ⟨0,0,false⟩))++([Value.slice none 0 0]++([Value.slice none 0 0]++([Value.slice none 0 0]++([Value.slice none 0 0]++(([]:List Value)))))))))).toArray)::(g3,71,((([]:List Value)++([Value.int .i64 x1]))++(([Value.bool false]++(Z32++lPT ⟨0,0,false⟩))++(([Value.bool false]++([Value.int .u64 0]++lPT ⟨0,0,false⟩))++([Value.slice none 0 0]++([Value.slice none 0 0]++([Value.slice none 0 0]++([Value.slice none 0 0]++(([]:List Value))))))))).toArray)::R) u1 v1_ hl hv w hw) (λu M hM=>?_)
 obtain ⟨x2,a2,e2,N2,p2,⟨cs2,rfl,n2,o2,rfl,b2⟩,u2,v2_,rfl⟩:=hM
 refine Sy.permS (M:=RB gr sl a2 e2 ((g2,71,((([]:List Value))++([Value.int .i64 0]++(([Value.bool false]++(Z32++lPT ⟨0,0,false⟩))++(([Value.bool false]++([Value.int .u64 0]++lPT ⟨0,0,false⟩))++([Value.slice none 0 0]++([Value.slice none 0 0]++([Value.slice none 0 0]++([Value.slice none 0 0]++(([]:List Value)))))))))).toArray)::(g3,71,((([]:List Value)++([Value.int .i64 x1]))++(([Value.bool false]++(Z32++lPT ⟨0,0,false⟩))++(([Value.bool false]++([Value.int .u64 0]++lPT ⟨0,0,false⟩))++([Value.slice none 0 0]++([Value.slice none 0 0]++([Value.slice none 0 0]++([Value.slice none 0 0]++(([]:List Value))))))))).toArray)::(R++N2))) (List.Perm.refl _) ?_
 refine sP (.pointer (some ⟨g3,1,none⟩))<|sw 2 rfl ((([]:List Value)++([Value.int .i64 x1])++(cTG x2))++(([Value.bool false]++([Value.int .u64 0]++lPT ⟨0,0,false⟩))++([Value.slice none 0 0]++([Value.slice none 0 0]++([Value.slice none 0 0]++([Value.slice none 0 0]++(([]:List Value)))))))).toArray (by rw [show ((([]:List Value)++([Value.int .i64 x1])++(cTG x2))++(([Value.bool false]++([Value.int .u64 0]++lPT ⟨0,0,false⟩))++([Value.slice none 0 0]++([Value.slice none 0 0]++([Value.slice none 0 0]++([Value.slice none 0 0]++(([]:List Value))))))))=(([]:List Value)++([Value.int .i64 x1]))++(cTG x2++(([Value.bool false]++([Value.int .u64 0]++lPT ⟨0,0,false⟩))++([Value.slice none 0 0]++([Value.slice none 0 0]++([Value.slice none 0 0]++([Value.slice none 0 0]++(([]:List Value)))))))) from List.append_assoc ..]; exact wM 67 (([]:List Value)++([Value.int .i64 x1])) ([Value.bool false]++(Z32++lPT ⟨0,0,false⟩)) (cTG x2) (([Value.bool false]++([Value.int .u64 0]++lPT ⟨0,0,false⟩))++([Value.slice none 0 0]++([Value.slice none 0 0]++([Value.slice none 0 0]++([Value.slice none 0 0]++(([]:List Value))))))) 42 1 _ _ rfl kR kR kR L1 rfl n2 o2) ?_
 have L2:(([]:List Value)++([Value.int .i64 x1])++(cTG x2)).length=43:=by rw [List.length_append,L1,n2]
 refine sA ?_
 refine sp rfl ?_
 refine Sy.callT (λw hw=>amountM_any w0.inn gr sl b a2 e2 ((g2,71,((([]:List Value))++([Value.int .i64 0]++(([Value.bool false]++(Z32++lPT ⟨0,0,false⟩))++(([Value.bool false]++([Value.int .u64 0]++lPT ⟨0,0,false⟩))++([Value.slice none 0 0]++([Value.slice none 0 0]++([Value.slice none 0 0]++([Value.slice none 0 0]++(([]:List Value)))))))))).toArray)::(g3,71,((([]:List Value)++([Value.int .i64 x1])++(cTG x2))++(([Value.bool false]++([Value.int .u64 0]++lPT ⟨0,0,false⟩))++([Value.slice none 0 0]++([Value.slice none 0 0]++([Value.slice none 0 0]++([Value.slice none 0 0]++(([]:List Value)))))))).toArray)::(R++N2)) u2 v2_ hl hv w hw) (λu M hM=>?_)
 obtain ⟨x3,a3,e3,N3,p3,⟨cs3,rfl,n3,o3,rfl,b3⟩,u3,v3_,rfl⟩:=hM
 refine Sy.permS (M:=RB gr sl a3 e3 ((g2,71,((([]:List Value))++([Value.int .i64 0]++(([Value.bool false]++(Z32++lPT ⟨0,0,false⟩))++(([Value.bool false]++([Value.int .u64 0]++lPT ⟨0,0,false⟩))++([Value.slice none 0 0]++([Value.slice none 0 0]++([Value.slice none 0 0]++([Value.slice none 0 0]++(([]:List Value)))))))))).toArray)::(g3,71,((([]:List Value)++([Value.int .i64 x1])++(cTG x2))++(([Value.bool false]++([Value.int .u64 0]++lPT ⟨0,0,false⟩))++([Value.slice none 0 0]++([Value.slice none 0 0]++([Value.slice none 0 0]++([Value.slice none 0 0]++(([]:List Value)))))))).toArray)::(R++N2++N3))) (List.Perm.refl _) ?_
 refine sP (.pointer (some ⟨g3,43,none⟩))<|sw 2 rfl ((([]:List Value)++([Value.int .i64 x1])++(cTG x2)++(cAM x3))++([Value.slice none 0 0]++([Value.slice none 0 0]++([Value.slice none 0 0]++([Value.slice none 0 0]++(([]:List Value))))))).toArray (by rw [show ((([]:List Value)++([Value.int .i64 x1])++(cTG x2)++(cAM x3))++([Value.slice none 0 0]++([Value.slice none 0 0]++([Value.slice none 0 0]++([Value.slice none 0 0]++(([]:List Value)))))))=(([]:List Value)++([Value.int .i64 x1])++(cTG x2))++(cAM x3++([Value.slice none 0 0]++([Value.slice none 0 0]++([Value.slice none 0 0]++([Value.slice none 0 0]++(([]:List Value))))))) from List.append_assoc ..]; exact wM 69 (([]:List Value)++([Value.int .i64 x1])++(cTG x2)) ([Value.bool false]++([Value.int .u64 0]++lPT ⟨0,0,false⟩)) (cAM x3) ([Value.slice none 0 0]++([Value.slice none 0 0]++([Value.slice none 0 0]++([Value.slice none 0 0]++(([]:List Value)))))) 11 43 _ _ rfl kR kR kR L2 rfl n3 o3) ?_
 have L3:(([]:List Value)++([Value.int .i64 x1])++(cTG x2)++(cAM x3)).length=54:=by rw [List.length_append,L2,n3]
 refine sA ?_
 refine sp rfl ?_
 refine Sy.callT (λw hw=>textM_any 6000 (by decide) w0.inn gr sl b a3 e3 ((g2,71,((([]:List Value))++([Value.int .i64 0]++(([Value.bool false]++(Z32++lPT ⟨0,0,false⟩))++(([Value.bool false]++([Value.int .u64 0]++lPT ⟨0,0,false⟩))++([Value.slice none 0 0]++([Value.slice none 0 0]++([Value.slice none 0 0]++([Value.slice none 0 0]++(([]:List Value)))))))))).toArray)::(g3,71,((([]:List Value)++([Value.int .i64 x1])++(cTG x2)++(cAM x3))++([Value.slice none 0 0]++([Value.slice none 0 0]++([Value.slice none 0 0]++([Value.slice none 0 0]++(([]:List Value))))))).toArray)::(R++N2++N3)) u3 v3_ hl hv w hw) (λv4 M hM=>?_)
 obtain ⟨x4,a4,e4,N4,p4,r4,u4,v4_,rfl⟩:=hM
 refine Sy.permS (M:=RB gr sl a4 e4 ((g2,71,((([]:List Value))++([Value.int .i64 0]++(([Value.bool false]++(Z32++lPT ⟨0,0,false⟩))++(([Value.bool false]++([Value.int .u64 0]++lPT ⟨0,0,false⟩))++([Value.slice none 0 0]++([Value.slice none 0 0]++([Value.slice none 0 0]++([Value.slice none 0 0]++(([]:List Value)))))))))).toArray)::(g3,71,((([]:List Value)++([Value.int .i64 x1])++(cTG x2)++(cAM x3))++([Value.slice none 0 0]++([Value.slice none 0 0]++([Value.slice none 0 0]++([Value.slice none 0 0]++(([]:List Value))))))).toArray)::(R++N2++N3++N4))) (List.Perm.refl _) ?_
 have hc4:=r4.byt.cells
 refine sP (.pointer (some ⟨g3,54,none⟩))<|sw 2 rfl ((([]:List Value)++([Value.int .i64 x1])++(cTG x2)++(cAM x3)++([v4]))++([Value.slice none 0 0]++([Value.slice none 0 0]++([Value.slice none 0 0]++(([]:List Value)))))).toArray (by rw [show ((([]:List Value)++([Value.int .i64 x1])++(cTG x2)++(cAM x3)++([v4]))++([Value.slice none 0 0]++([Value.slice none 0 0]++([Value.slice none 0 0]++(([]:List Value))))))=(([]:List Value)++([Value.int .i64 x1])++(cTG x2)++(cAM x3))++([v4]++([Value.slice none 0 0]++([Value.slice none 0 0]++([Value.slice none 0 0]++(([]:List Value)))))) from List.append_assoc ..]; exact Writes.one 54 27 v4 _ _ rfl kR kR kR hc4.1 hc4.2 (by rw [List.size_toArray,List.length_append,L3]; exact Nat.lt_add_of_pos_right (Nat.succ_pos _)) (set_mid L3)) ?_
 have L4:(([]:List Value)++([Value.int .i64 x1])++(cTG x2)++(cAM x3)++([v4])).length=55:=by rw [List.length_append,L3]; rfl
 refine sA ?_
 refine sp rfl ?_
 refine Sy.callT (λw hw=>textM_any 6000 (by decide) w0.inn gr sl b a4 e4 ((g2,71,((([]:List Value))++([Value.int .i64 0]++(([Value.bool false]++(Z32++lPT ⟨0,0,false⟩))++(([Value.bool false]++([Value.int .u64 0]++lPT ⟨0,0,false⟩))++([Value.slice none 0 0]++([Value.slice none 0 0]++([Value.slice none 0 0]++([Value.slice none 0 0]++(([]:List Value)))))))))).toArray)::(g3,71,((([]:List Value)++([Value.int .i64 x1])++(cTG x2)++(cAM x3)++([v4]))++([Value.slice none 0 0]++([Value.slice none 0 0]++([Value.slice none 0 0]++(([]:List Value)))))).toArray)::(R++N2++N3++N4)) u4 v4_ hl hv w hw) (λv5 M hM=>?_)
 obtain ⟨x5,a5,e5,N5,p5,r5,u5,v5_,rfl⟩:=hM
 refine Sy.permS (M:=RB gr sl a5 e5 ((g2,71,((([]:List Value))++([Value.int .i64 0]++(([Value.bool false]++(Z32++lPT ⟨0,0,false⟩))++(([Value.bool false]++([Value.int .u64 0]++lPT ⟨0,0,false⟩))++([Value.slice none 0 0]++([Value.slice none 0 0]++([Value.slice none 0 0]++([Value.slice none 0 0]++(([]:List Value)))))))))).toArray)::(g3,71,((([]:List Value)++([Value.int .i64 x1])++(cTG x2)++(cAM x3)++([v4]))++([Value.slice none 0 0]++([Value.slice none 0 0]++([Value.slice none 0 0]++(([]:List Value)))))).toArray)::(R++N2++N3++N4++N5))) (List.Perm.refl _) ?_
 have hc5:=r5.byt.cells
 refine sP (.pointer (some ⟨g3,55,none⟩))<|sw 2 rfl ((([]:List Value)++([Value.int .i64 x1])++(cTG x2)++(cAM x3)++([v4])++([v5]))++([Value.slice none 0 0]++([Value.slice none 0 0]++(([]:List Value))))).toArray (by rw [show ((([]:List Value)++([Value.int .i64 x1])++(cTG x2)++(cAM x3)++([v4])++([v5]))++([Value.slice none 0 0]++([Value.slice none 0 0]++(([]:List Value)))))=(([]:List Value)++([Value.int .i64 x1])++(cTG x2)++(cAM x3)++([v4]))++([v5]++([Value.slice none 0 0]++([Value.slice none 0 0]++(([]:List Value))))) from List.append_assoc ..]; exact Writes.one 55 27 v5 _ _ rfl kR kR kR hc5.1 hc5.2 (by rw [List.size_toArray,List.length_append,L4]; exact Nat.lt_add_of_pos_right (Nat.succ_pos _)) (set_mid L4)) ?_
 have L5:(([]:List Value)++([Value.int .i64 x1])++(cTG x2)++(cAM x3)++([v4])++([v5])).length=56:=by rw [List.length_append,L4]; rfl
 refine sA ?_
 refine sp rfl ?_
 refine Sy.callT (λw hw=>textM_any 128 (by decide) w0.inn gr sl b a5 e5 ((g2,71,((([]:List Value))++([Value.int .i64 0]++(([Value.bool false]++(Z32++lPT ⟨0,0,false⟩))++(([Value.bool false]++([Value.int .u64 0]++lPT ⟨0,0,false⟩))++([Value.slice none 0 0]++([Value.slice none 0 0]++([Value.slice none 0 0]++([Value.slice none 0 0]++(([]:List Value)))))))))).toArray)::(g3,71,((([]:List Value)++([Value.int .i64 x1])++(cTG x2)++(cAM x3)++([v4])++([v5]))++([Value.slice none 0 0]++([Value.slice none 0 0]++(([]:List Value))))).toArray)::(R++N2++N3++N4++N5)) u5 v5_ hl hv w hw) (λv6 M hM=>?_)
 obtain ⟨x6,a6,e6,N6,p6,r6,u6,v6_,rfl⟩:=hM
 refine Sy.permS (M:=RB gr sl a6 e6 ((g2,71,((([]:List Value))++([Value.int .i64 0]++(([Value.bool false]++(Z32++lPT ⟨0,0,false⟩))++(([Value.bool false]++([Value.int .u64 0]++lPT ⟨0,0,false⟩))++([Value.slice none 0 0]++([Value.slice none 0 0]++([Value.slice none 0 0]++([Value.slice none 0 0]++(([]:List Value)))))))))).toArray)::(g3,71,((([]:List Value)++([Value.int .i64 x1])++(cTG x2)++(cAM x3)++([v4])++([v5]))++([Value.slice none 0 0]++([Value.slice none 0 0]++(([]:List Value))))).toArray)::(R++N2++N3++N4++N5++N6))) (List.Perm.refl _) ?_
 have hc6:=r6.byt.cells
 refine sP (.pointer (some ⟨g3,56,none⟩))<|sw 2 rfl ((([]:List Value)++([Value.int .i64 x1])++(cTG x2)++(cAM x3)++([v4])++([v5])++([v6]))++([Value.slice none 0 0]++(([]:List Value)))).toArray (by rw [show ((([]:List Value)++([Value.int .i64 x1])++(cTG x2)++(cAM x3)++([v4])++([v5])++([v6]))++([Value.slice none 0 0]++(([]:List Value))))=(([]:List Value)++([Value.int .i64 x1])++(cTG x2)++(cAM x3)++([v4])++([v5]))++([v6]++([Value.slice none 0 0]++(([]:List Value)))) from List.append_assoc ..]; exact Writes.one 56 27 v6 _ _ rfl kR kR kR hc6.1 hc6.2 (by rw [List.size_toArray,List.length_append,L5]; exact Nat.lt_add_of_pos_right (Nat.succ_pos _)) (set_mid L5)) ?_
 have L6:(([]:List Value)++([Value.int .i64 x1])++(cTG x2)++(cAM x3)++([v4])++([v5])++([v6])).length=57:=by rw [List.length_append,L5]; rfl
 refine sA ?_
 refine sp rfl ?_
 refine Sy.callT (λw hw=>textM_any 256 (by decide) w0.inn gr sl b a6 e6 ((g2,71,((([]:List Value))++([Value.int .i64 0]++(([Value.bool false]++(Z32++lPT ⟨0,0,false⟩))++(([Value.bool false]++([Value.int .u64 0]++lPT ⟨0,0,false⟩))++([Value.slice none 0 0]++([Value.slice none 0 0]++([Value.slice none 0 0]++([Value.slice none 0 0]++(([]:List Value)))))))))).toArray)::(g3,71,((([]:List Value)++([Value.int .i64 x1])++(cTG x2)++(cAM x3)++([v4])++([v5])++([v6]))++([Value.slice none 0 0]++(([]:List Value)))).toArray)::(R++N2++N3++N4++N5++N6)) u6 v6_ hl hv w hw) (λv7 M hM=>?_)
 obtain ⟨x7,a7,e7,N7,p7,r7,u7,v7_,rfl⟩:=hM
 refine Sy.permS (M:=RB gr sl a7 e7 ((g2,71,((([]:List Value))++([Value.int .i64 0]++(([Value.bool false]++(Z32++lPT ⟨0,0,false⟩))++(([Value.bool false]++([Value.int .u64 0]++lPT ⟨0,0,false⟩))++([Value.slice none 0 0]++([Value.slice none 0 0]++([Value.slice none 0 0]++([Value.slice none 0 0]++(([]:List Value)))))))))).toArray)::(g3,71,((([]:List Value)++([Value.int .i64 x1])++(cTG x2)++(cAM x3)++([v4])++([v5])++([v6]))++([Value.slice none 0 0]++(([]:List Value)))).toArray)::(R++N2++N3++N4++N5++N6++N7))) (List.Perm.refl _) ?_
 have hc7:=r7.byt.cells
 refine sP (.pointer (some ⟨g3,57,none⟩))<|sw 2 rfl ((([]:List Value)++([Value.int .i64 x1])++(cTG x2)++(cAM x3)++([v4])++([v5])++([v6])++([v7]))++([]:List Value)).toArray (by rw [show ((([]:List Value)++([Value.int .i64 x1])++(cTG x2)++(cAM x3)++([v4])++([v5])++([v6])++([v7]))++([]:List Value))=(([]:List Value)++([Value.int .i64 x1])++(cTG x2)++(cAM x3)++([v4])++([v5])++([v6]))++([v7]++(([]:List Value))) from List.append_assoc ..]; exact Writes.one 57 27 v7 _ _ rfl kR kR kR hc7.1 hc7.2 (by rw [List.size_toArray,List.length_append,L6]; exact Nat.lt_add_of_pos_right (Nat.succ_pos _)) (set_mid L6)) ?_
 have L7:(([]:List Value)++([Value.int .i64 x1])++(cTG x2)++(cAM x3)++([v4])++([v5])++([v6])++([v7])).length=58:=by rw [List.length_append,L6]; rfl
 have hAf:After rdOU ⟨b.drop at_,e⟩ ⟨x1,x2,x3,x4,x5,x6,x7⟩ ⟨b.drop a7,e7⟩:=by
  unfold rdOU
  rw [← sml_kind]
  exact p1.bind (p2.bind (p3.bind (p4.bind (p5.bind (p6.bind (p7.bind (After.ret _ _)))))))
 have hrp:repOU (rdB (N2++(N3++(N4++(N5++(N6++N7)))))) ((([]:List Value)++([Value.int .i64 x1])++(cTG x2)++(cAM x3)++([v4])++([v5])++([v6])++([v7]))++([]:List Value)) ⟨x1,x2,x3,x4,x5,x6,x7⟩:=⟨v4,v5,v6,v7,by simp only [cOU,List.append_assoc,List.append_nil,List.nil_append],b2,b3,r4.byt.le (rdB_le λb h=>by simp [h]),r5.byt.le (rdB_le λb h=>by simp [h]),r6.byt.le (rdB_le λb h=>by simp [h]),r7.byt.le (rdB_le λb h=>by simp [h])⟩
 have hln:((([]:List Value)++([Value.int .i64 x1])++(cTG x2)++(cAM x3)++([v4])++([v5])++([v6])++([v7]))++([]:List Value)).length=58:=by rw [List.length_append,L7]; rfl
 have hon:∀ u∈((([]:List Value)++([Value.int .i64 x1])++(cTG x2)++(cAM x3)++([v4])++([v5])++([v6])++([v7]))++([]:List Value)),u.oneCell'=true:=oneOU hrp
 refine sA ?_
 refine sS (.agg ((([]:List Value)++([Value.int .i64 x1])++(cTG x2)++(cAM x3)++([v4])++([v5])++([v6])++([v7]))++([]:List Value)).toArray) (Quiet.mid 2 g3 0 58 71 71 ((([]:List Value)++([Value.int .i64 x1])++(cTG x2)++(cAM x3)++([v4])++([v5])++([v6])++([v7]))++([]:List Value)) ((([]:List Value)++([Value.int .i64 x1])++(cTG x2)++(cAM x3)++([v4])++([v5])++([v6])++([v7]))++([]:List Value)) _ _ rfl kR rfl Tryz.underlying71 rfl kR (by rw [List.drop_zero,List.take_of_length_le (by omega)]) (by omega))<|sw 1 rfl ((([]:List Value)++([Value.int .i64 x1])++(cTG x2)++(cAM x3)++([v4])++([v5])++([v6])++([v7]))++([]:List Value)).toArray (Writes.row 71 ((([]:List Value)++([Value.int .i64 x1])++(cTG x2)++(cAM x3)++([v4])++([v5])++([v6])++([v7]))++([]:List Value)) 58 _ _ rfl kR kR kR hln (by kernel_rfl) hon) ?_
 refine sG<|Sy.ret ?_
 exact Sy.retT1 (RB gr sl a7 e7 (R++(N2++(N3++(N4++(N5++(N6++N7))))))) rfl (.inl (Sy.Res.cell (ty':=71) g2 1 ((([]:List Value)++([Value.int .i64 x1])++(cTG x2)++(cAM x3)++([v4])++([v5])++([v6])++([v7]))++([]:List Value)).toArray _ (by kernel_rfl) rfl Tryz.underlying71 rfl (by rw [List.size_toArray,hln]; kernel_rfl) rfl)) (λ_ h=>by
  have e:R++N2++N3++N4++N5++N6++N7=R++(N2++(N3++(N4++(N5++(N6++N7))))):=by simp only [List.append_assoc]
  rw [← e]
  exact h.less ((((List.Sublist.refl _).cons _).cons _).cons_cons _)) ⟨_,a7,e7,N2++(N3++(N4++(N5++(N6++N7)))),hAf,⟨((([]:List Value)++([Value.int .i64 x1])++(cTG x2)++(cAM x3)++([v4])++([v5])++([v6])++([v7]))++([]:List Value)),rfl,hln,hon,hrp⟩,u7,v7_,rfl⟩
end Wr
end
section
namespace Wr
open Go.RowKit Sy
set_option maxRecDepth 100000
set_option maxHeartbeats 4000000
structure RLsN (α:Type) where
 at_:Nat
 e:Nat
 xs:List α
 r:Slc
 N:Blocks
theorem cfgM_any (w0:Base) (gr:Nat) (sl:Value) (b:Byt) (at_ e:Nat) (R:Blocks) (hat:at_≤b.length) (he:e≤200) (hl:b.length≤70368744177664) (hv:BytR (rdW w0.world) sl b) (w:World) (hw:St w0 w (RB gr sl at_ e R)) :
  Calls Tryz.prog 48 #[ptr gr] w (Turns w0 (Rfd rdCF (rowV 102 repCF) gr sl b R at_ e)):=by
 have L0:([]:List Value).length=0:=rfl
 refine Sy.enterT (args:=[ptr gr]) hw Tryz.func48 rfl kL ?_
 refine sC ?_
 refine sM 54 ((([]:List Value))++(Z32++([Value.int .u64 0]++(([Value.int .i64 0]++[Value.slice none 0 0])++((Z32++(Z32++([Value.int .u64 0]++[Value.int .u64 0])))++([Value.slice none 0 0]++(([]:List Value)))))))).toArray (λg2=>?_)
 refine Sy.movT (pre:=[(gr,168,rrC sl at_ e)]) (T:=R) ?_
 refine sA ?_
 refine sM 54 ((([]:List Value))++(Z32++([Value.int .u64 0]++(([Value.int .i64 0]++[Value.slice none 0 0])++((Z32++(Z32++([Value.int .u64 0]++[Value.int .u64 0])))++([Value.slice none 0 0]++(([]:List Value)))))))).toArray (λg3=>?_)
 refine Sy.movT (pre:=[(gr,168,rrC sl at_ e),(g2,54,((([]:List Value))++(Z32++([Value.int .u64 0]++(([Value.int .i64 0]++[Value.slice none 0 0])++((Z32++(Z32++([Value.int .u64 0]++[Value.int .u64 0])))++([Value.slice none 0 0]++(([]:List Value)))))))).toArray)]) (T:=R) ?_
 refine sA ?_
 refine sp rfl ?_
 refine Sy.callT (λw hw=>digM_any w0.inn gr sl b at_ e ((g2,54,((([]:List Value))++(Z32++([Value.int .u64 0]++(([Value.int .i64 0]++[Value.slice none 0 0])++((Z32++(Z32++([Value.int .u64 0]++[Value.int .u64 0])))++([Value.slice none 0 0]++(([]:List Value)))))))).toArray)::(g3,54,((([]:List Value))++(Z32++([Value.int .u64 0]++(([Value.int .i64 0]++[Value.slice none 0 0])++((Z32++(Z32++([Value.int .u64 0]++[Value.int .u64 0])))++([Value.slice none 0 0]++(([]:List Value)))))))).toArray)::R) hat he hl hv w hw) (λu M hM=>?_)
 obtain ⟨x1,a1,e1,N1,p1,⟨rfl,r1,rfl⟩,u1,v1_,rfl⟩:=hM
 rw [List.append_nil ((g2,54,((([]:List Value))++(Z32++([Value.int .u64 0]++(([Value.int .i64 0]++[Value.slice none 0 0])++((Z32++(Z32++([Value.int .u64 0]++[Value.int .u64 0])))++([Value.slice none 0 0]++(([]:List Value)))))))).toArray)::(g3,54,((([]:List Value))++(Z32++([Value.int .u64 0]++(([Value.int .i64 0]++[Value.slice none 0 0])++((Z32++(Z32++([Value.int .u64 0]++[Value.int .u64 0])))++([Value.slice none 0 0]++(([]:List Value)))))))).toArray)::R)]
 have n1:(x1.map bv).length=32:=by rw [List.length_map,r1]
 refine sP (.pointer (some ⟨g3,0,none⟩))<|sw 2 rfl ((([]:List Value)++(x1.map bv))++([Value.int .u64 0]++(([Value.int .i64 0]++[Value.slice none 0 0])++((Z32++(Z32++([Value.int .u64 0]++[Value.int .u64 0])))++([Value.slice none 0 0]++(([]:List Value))))))).toArray (by rw [show ((([]:List Value)++(x1.map bv))++([Value.int .u64 0]++(([Value.int .i64 0]++[Value.slice none 0 0])++((Z32++(Z32++([Value.int .u64 0]++[Value.int .u64 0])))++([Value.slice none 0 0]++(([]:List Value)))))))=(([]:List Value))++(x1.map bv++([Value.int .u64 0]++(([Value.int .i64 0]++[Value.slice none 0 0])++((Z32++(Z32++([Value.int .u64 0]++[Value.int .u64 0])))++([Value.slice none 0 0]++(([]:List Value))))))) from List.append_assoc ..]; exact wM 37 (([]:List Value)) Z32 (x1.map bv) ([Value.int .u64 0]++(([Value.int .i64 0]++[Value.slice none 0 0])++((Z32++(Z32++([Value.int .u64 0]++[Value.int .u64 0])))++([Value.slice none 0 0]++(([]:List Value)))))) 32 0 _ _ rfl kR kR kR L0 Z32_len n1 (ones_bW x1)) ?_
 have L1:(([]:List Value)++(x1.map bv)).length=32:=by rw [List.length_append,L0,n1]
 refine sA ?_
 refine sp rfl ?_
 refine Sy.callT (λw hw=>numM_any w0.inn gr sl b a1 e1 8 ((g2,54,((([]:List Value))++(Z32++([Value.int .u64 0]++(([Value.int .i64 0]++[Value.slice none 0 0])++((Z32++(Z32++([Value.int .u64 0]++[Value.int .u64 0])))++([Value.slice none 0 0]++(([]:List Value)))))))).toArray)::(g3,54,((([]:List Value)++(x1.map bv))++([Value.int .u64 0]++(([Value.int .i64 0]++[Value.slice none 0 0])++((Z32++(Z32++([Value.int .u64 0]++[Value.int .u64 0])))++([Value.slice none 0 0]++(([]:List Value))))))).toArray)::R) u1 v1_ (by decide) hl hv w hw) (λu M hM=>?_)
 obtain ⟨x2,a2,e2,N2,p2,⟨rfl,r2,rfl⟩,u2,v2_,rfl⟩:=hM
 rw [List.append_nil ((g2,54,((([]:List Value))++(Z32++([Value.int .u64 0]++(([Value.int .i64 0]++[Value.slice none 0 0])++((Z32++(Z32++([Value.int .u64 0]++[Value.int .u64 0])))++([Value.slice none 0 0]++(([]:List Value)))))))).toArray)::(g3,54,((([]:List Value)++(x1.map bv))++([Value.int .u64 0]++(([Value.int .i64 0]++[Value.slice none 0 0])++((Z32++(Z32++([Value.int .u64 0]++[Value.int .u64 0])))++([Value.slice none 0 0]++(([]:List Value))))))).toArray)::R)]
 refine sP (.pointer (some ⟨g3,32,none⟩))<|sw 2 rfl ((([]:List Value)++(x1.map bv)++([Value.int .u64 (x2:Int)]))++(([Value.int .i64 0]++[Value.slice none 0 0])++((Z32++(Z32++([Value.int .u64 0]++[Value.int .u64 0])))++([Value.slice none 0 0]++(([]:List Value)))))).toArray (by rw [show ((([]:List Value)++(x1.map bv)++([Value.int .u64 (x2:Int)]))++(([Value.int .i64 0]++[Value.slice none 0 0])++((Z32++(Z32++([Value.int .u64 0]++[Value.int .u64 0])))++([Value.slice none 0 0]++(([]:List Value))))))=(([]:List Value)++(x1.map bv))++([Value.int .u64 (x2:Int)]++(([Value.int .i64 0]++[Value.slice none 0 0])++((Z32++(Z32++([Value.int .u64 0]++[Value.int .u64 0])))++([Value.slice none 0 0]++(([]:List Value)))))) from List.append_assoc ..]; exact Writes.one 32 22 (.int .u64 (x2:Int)) _ _ rfl kR kR kR rfl rfl (by rw [List.size_toArray,List.length_append,L1]; exact Nat.lt_add_of_pos_right (Nat.succ_pos _)) (set_mid L1)) ?_
 have L2:(([]:List Value)++(x1.map bv)++([Value.int .u64 (x2:Int)])).length=33:=by rw [List.length_append,L1]; rfl
 refine sA ?_
 refine sp rfl ?_
 refine Sy.callT (λw hw=>parM_any w0.inn gr sl b a2 e2 ((g2,54,((([]:List Value))++(Z32++([Value.int .u64 0]++(([Value.int .i64 0]++[Value.slice none 0 0])++((Z32++(Z32++([Value.int .u64 0]++[Value.int .u64 0])))++([Value.slice none 0 0]++(([]:List Value)))))))).toArray)::(g3,54,((([]:List Value)++(x1.map bv)++([Value.int .u64 (x2:Int)]))++(([Value.int .i64 0]++[Value.slice none 0 0])++((Z32++(Z32++([Value.int .u64 0]++[Value.int .u64 0])))++([Value.slice none 0 0]++(([]:List Value)))))).toArray)::R) u2 v2_ hl hv w hw) (λu M hM=>?_)
 obtain ⟨x3,a3,e3,N3,p3,⟨cs3,rfl,n3,o3,r3⟩,u3,v3_,rfl⟩:=hM
 refine Sy.permS (M:=RB gr sl a3 e3 ((g2,54,((([]:List Value))++(Z32++([Value.int .u64 0]++(([Value.int .i64 0]++[Value.slice none 0 0])++((Z32++(Z32++([Value.int .u64 0]++[Value.int .u64 0])))++([Value.slice none 0 0]++(([]:List Value)))))))).toArray)::(g3,54,((([]:List Value)++(x1.map bv)++([Value.int .u64 (x2:Int)]))++(([Value.int .i64 0]++[Value.slice none 0 0])++((Z32++(Z32++([Value.int .u64 0]++[Value.int .u64 0])))++([Value.slice none 0 0]++(([]:List Value)))))).toArray)::(R++N3))) (List.Perm.refl _) ?_
 refine sP (.pointer (some ⟨g3,33,none⟩))<|sw 2 rfl ((([]:List Value)++(x1.map bv)++([Value.int .u64 (x2:Int)])++(cs3))++((Z32++(Z32++([Value.int .u64 0]++[Value.int .u64 0])))++([Value.slice none 0 0]++(([]:List Value))))).toArray (by rw [show ((([]:List Value)++(x1.map bv)++([Value.int .u64 (x2:Int)])++(cs3))++((Z32++(Z32++([Value.int .u64 0]++[Value.int .u64 0])))++([Value.slice none 0 0]++(([]:List Value)))))=(([]:List Value)++(x1.map bv)++([Value.int .u64 (x2:Int)]))++(cs3++((Z32++(Z32++([Value.int .u64 0]++[Value.int .u64 0])))++([Value.slice none 0 0]++(([]:List Value))))) from List.append_assoc ..]; exact wM 40 (([]:List Value)++(x1.map bv)++([Value.int .u64 (x2:Int)])) ([Value.int .i64 0]++[Value.slice none 0 0]) cs3 ((Z32++(Z32++([Value.int .u64 0]++[Value.int .u64 0])))++([Value.slice none 0 0]++(([]:List Value)))) 2 33 _ _ rfl kR kR kR L2 rfl n3 o3) ?_
 have L3:(([]:List Value)++(x1.map bv)++([Value.int .u64 (x2:Int)])++(cs3)).length=35:=by rw [List.length_append,L2,n3]
 refine sA ?_
 refine sp rfl ?_
 refine Sy.callT (λw hw=>mhdM_any w0.inn gr sl b a3 e3 ((g2,54,((([]:List Value))++(Z32++([Value.int .u64 0]++(([Value.int .i64 0]++[Value.slice none 0 0])++((Z32++(Z32++([Value.int .u64 0]++[Value.int .u64 0])))++([Value.slice none 0 0]++(([]:List Value)))))))).toArray)::(g3,54,((([]:List Value)++(x1.map bv)++([Value.int .u64 (x2:Int)])++(cs3))++((Z32++(Z32++([Value.int .u64 0]++[Value.int .u64 0])))++([Value.slice none 0 0]++(([]:List Value))))).toArray)::(R++N3)) u3 v3_ hl hv w hw) (λu M hM=>?_)
 obtain ⟨x4,a4,e4,N4,p4,⟨cs4,rfl,n4,o4,r4⟩,u4,v4_,rfl⟩:=hM
 refine Sy.permS (M:=RB gr sl a4 e4 ((g2,54,((([]:List Value))++(Z32++([Value.int .u64 0]++(([Value.int .i64 0]++[Value.slice none 0 0])++((Z32++(Z32++([Value.int .u64 0]++[Value.int .u64 0])))++([Value.slice none 0 0]++(([]:List Value)))))))).toArray)::(g3,54,((([]:List Value)++(x1.map bv)++([Value.int .u64 (x2:Int)])++(cs3))++((Z32++(Z32++([Value.int .u64 0]++[Value.int .u64 0])))++([Value.slice none 0 0]++(([]:List Value))))).toArray)::(R++N3++N4))) (List.Perm.refl _) ?_
 refine sP (.pointer (some ⟨g3,35,none⟩))<|sw 2 rfl ((([]:List Value)++(x1.map bv)++([Value.int .u64 (x2:Int)])++(cs3)++(cs4))++([Value.slice none 0 0]++(([]:List Value)))).toArray (by rw [show ((([]:List Value)++(x1.map bv)++([Value.int .u64 (x2:Int)])++(cs3)++(cs4))++([Value.slice none 0 0]++(([]:List Value))))=(([]:List Value)++(x1.map bv)++([Value.int .u64 (x2:Int)])++(cs3))++(cs4++([Value.slice none 0 0]++(([]:List Value)))) from List.append_assoc ..]; exact wM 52 (([]:List Value)++(x1.map bv)++([Value.int .u64 (x2:Int)])++(cs3)) (Z32++(Z32++([Value.int .u64 0]++[Value.int .u64 0]))) cs4 ([Value.slice none 0 0]++(([]:List Value))) 66 35 _ _ rfl kR kR kR L3 rfl n4 o4) ?_
 have L4:(([]:List Value)++(x1.map bv)++([Value.int .u64 (x2:Int)])++(cs3)++(cs4)).length=101:=by rw [List.length_append,L3,n4]
 refine sA ?_
 refine sp rfl ?_
 refine Sy.callT (λw hw=>manyM_any w0.inn gr sl b a4 e4 64 ((g2,54,((([]:List Value))++(Z32++([Value.int .u64 0]++(([Value.int .i64 0]++[Value.slice none 0 0])++((Z32++(Z32++([Value.int .u64 0]++[Value.int .u64 0])))++([Value.slice none 0 0]++(([]:List Value)))))))).toArray)::(g3,54,((([]:List Value)++(x1.map bv)++([Value.int .u64 (x2:Int)])++(cs3)++(cs4))++([Value.slice none 0 0]++(([]:List Value)))).toArray)::(R++N3++N4)) u4 v4_ (by decide) hl hv w hw) (λu M hM=>?_)
 obtain ⟨n,a5,e5,N5,q1,⟨rfl,q2,rfl⟩,q3,q4,rfl⟩:=hM
 rw [List.append_nil ((g2,54,((([]:List Value))++(Z32++([Value.int .u64 0]++(([Value.int .i64 0]++[Value.slice none 0 0])++((Z32++(Z32++([Value.int .u64 0]++[Value.int .u64 0])))++([Value.slice none 0 0]++(([]:List Value)))))))).toArray)::(g3,54,((([]:List Value)++(x1.map bv)++([Value.int .u64 (x2:Int)])++(cs3)++(cs4))++([Value.slice none 0 0]++(([]:List Value)))).toArray)::(R++N3++N4))]
 refine sp rfl ?_
 refine sG<|Sy.seq<|sC ?_
 refine sP (.int .i64 0) ?_
 refine sG<|Sy.block ?_
 refine Sy.loopT (Y:=RLsN MOu) n (λi _=>[(0,ptr gr),(2,ptr g2),(3,ptr g3),(4,.int .i64 (n:Int)),(5,.int .i64 (i:Int))]) (λ_ y=>[(gr,168,rrC sl y.at_ y.e),(g2,54,((([]:List Value))++(Z32++([Value.int .u64 0]++(([Value.int .i64 0]++[Value.slice none 0 0])++((Z32++(Z32++([Value.int .u64 0]++[Value.int .u64 0])))++([Value.slice none 0 0]++(([]:List Value)))))))).toArray),(g3,54,((([]:List Value)++(x1.map bv)++([Value.int .u64 (x2:Int)])++(cs3)++(cs4))++([y.r.v]++([]:List Value))).toArray)]++(y.r.bl++((R++N3++N4)++y.N))) (λi y=>After (repP rdOU i) ⟨b.drop a5,e5⟩ y.xs ⟨b.drop y.at_,y.e⟩∧y.at_≤b.length∧y.e≤200∧y.xs.length=i∧RowsOk 71 58 repOU y.r y.N y.xs) ⟨a5,e5,[],nilS,[]⟩ ⟨After.ret [] _,q3,q4,rfl,RowsOk.nil⟩ (all_cons kR (all_cons kR (all_cons kR (all_cons kR (all_cons kR all_nil))))) (λ_ h=>h.perm (List.Perm.of_eq (congrArg (λz=>(gr,168,rrC sl a5 e5)::(g2,54,((([]:List Value))++(Z32++([Value.int .u64 0]++(([Value.int .i64 0]++[Value.slice none 0 0])++((Z32++(Z32++([Value.int .u64 0]++[Value.int .u64 0])))++([Value.slice none 0 0]++(([]:List Value)))))))).toArray)::(g3,54,((([]:List Value)++(x1.map bv)++([Value.int .u64 (x2:Int)])++(cs3)++(cs4))++([Value.slice none 0 0]++([]:List Value))).toArray)::z) (List.append_nil (R++N3++N4)).symm))) (λi y hi hy=>?_)
 obtain ⟨a,f,xs,r,N⟩:=y
 obtain ⟨y1,y2,y3,y4,y5⟩:=hy
 dsimp only at y1 y2 y3 y4 y5 ⊢
 obtain ⟨b3,hb3⟩:∃ z:Bool,z=decide (i<n∧f=0):=⟨_,rfl⟩
 refine Sy.seq<|Sy.seq ?_
 refine cutC [(0,ptr gr),(2,ptr g2),(3,ptr g3),(4,.int .i64 (n:Int)),(5,.int .i64 (i:Int)),(26,.bool b3)] ([(gr,168,rrC sl a f),(g2,54,((([]:List Value))++(Z32++([Value.int .u64 0]++(([Value.int .i64 0]++[Value.slice none 0 0])++((Z32++(Z32++([Value.int .u64 0]++[Value.int .u64 0])))++([Value.slice none 0 0]++(([]:List Value)))))))).toArray),(g3,54,((([]:List Value)++(x1.map bv)++([Value.int .u64 (x2:Int)])++(cs3)++(cs4))++([r.v]++([]:List Value))).toArray)]++(r.bl++((R++N3++N4)++N))) ?_ ?_
 ·refine Sy.region ?_
  obtain ⟨b1,hb1⟩:∃ z:Bool,z=decide (i<n):=⟨_,rfl⟩
  refine sp rfl<|sp rfl<|sS (.bool b1) (Quiet.pure (exec_int .lss _ _ _ .i64 _ _ _ rfl rfl rfl (int_lss _ _ _ _ _ (by rw [hb1]; exact decide_eq_decide.2 (by omega)))))<|sp rfl ?_
  cases b1
  ·obtain rfl:b3=false:=by rw [hb3]; exact decide_eq_false (λh=>of_decide_eq_false hb1.symm h.1)
   refine sN<|sN<|sP (.bool false) ?_
   refine Sy.nil ?_
   exact meet (all_cons kR (all_cons kR (all_cons kR (all_cons kR (all_cons kR (all_cons kR all_nil)))))) (λ_ h=>h)
  ·obtain ⟨b2,hb2⟩:∃ z:Bool,z=decide (f=0):=⟨_,rfl⟩
   obtain rfl:b3=b2:=by rw [hb3,hb2]; exact decide_eq_decide.2 ⟨λh=>h.2,λh=>⟨of_decide_eq_true hb1.symm,h⟩⟩
   refine sp rfl<|sS (.bool b3) (qg (λw hw=>by rw [hb2]; exact okM_any w0.inn gr sl a f (List.mem_cons_self ..) w hw))<|sP (.bool b3) ?_
   refine Sy.nil ?_
   exact meet (all_cons kR (all_cons kR (all_cons kR (all_cons kR (all_cons kR (all_cons kR all_nil)))))) (λ_ h=>h)
 refine Sy.then_ ?_
 cases b3
 case' false =>
  have l3:¬ (i<n∧f=0):=of_decide_eq_false hb3.symm
  have hA:After (repP rdOU n) ⟨b.drop a5,e5⟩ xs ⟨b.drop a,f⟩:=by
   by_cases h:i<n
   ·exact y1.stop (λh0=>l3 ⟨h,h0⟩) hi
   ·obtain rfl:i=n:=by omega
    exact y1
  have hrp:repCF (rdB (N3++(N4++(N++r.bl)))) ((([]:List Value)++(x1.map bv)++([Value.int .u64 (x2:Int)])++(cs3)++(cs4))++([r.v]++([]:List Value))) ⟨x1,x2,x3,x4,xs⟩:=⟨cs3,cs4,r.v,by simp only [List.append_assoc,List.append_nil,List.nil_append],r1,r2,monoPA (rdB_le λb h=>by simp [h]) r3,r4,LstR.le (rep:=repOU) monoOU (rdB_le λb h=>by rcases List.mem_append.1 h with h | h <;> simp [h]) (RowsOk.lst (rep:=repOU) monoOU y5)⟩
  have hln:((([]:List Value)++(x1.map bv)++([Value.int .u64 (x2:Int)])++(cs3)++(cs4))++([r.v]++([]:List Value))).length=102:=by rw [List.length_append,L4]; rfl
  have hon:∀ u∈((([]:List Value)++(x1.map bv)++([Value.int .u64 (x2:Int)])++(cs3)++(cs4))++([r.v]++([]:List Value))),u.oneCell'=true:=oneCF hrp
  refine sU<|Sy.exit<|Sy.then_exit<|Sy.then_exit<|Sy.in_exit<|Sy.then_<|sC ?_
  refine sS (.agg ((([]:List Value)++(x1.map bv)++([Value.int .u64 (x2:Int)])++(cs3)++(cs4))++([r.v]++([]:List Value))).toArray) (Quiet.mid 2 g3 0 102 54 54 ((([]:List Value)++(x1.map bv)++([Value.int .u64 (x2:Int)])++(cs3)++(cs4))++([r.v]++([]:List Value))) ((([]:List Value)++(x1.map bv)++([Value.int .u64 (x2:Int)])++(cs3)++(cs4))++([r.v]++([]:List Value))) _ _ rfl kR rfl Tryz.underlying54 rfl kR (by rw [List.drop_zero,List.take_of_length_le (by omega)]) (by omega))<|sw 1 rfl ((([]:List Value)++(x1.map bv)++([Value.int .u64 (x2:Int)])++(cs3)++(cs4))++([r.v]++([]:List Value))).toArray (Writes.row 54 ((([]:List Value)++(x1.map bv)++([Value.int .u64 (x2:Int)])++(cs3)++(cs4))++([r.v]++([]:List Value))) 102 _ _ rfl kR kR kR hln (by kernel_rfl) hon) ?_
  refine sG<|Sy.ret ?_
  exact Sy.retT1 (RB gr sl a f (R++(N3++(N4++(N++r.bl))))) rfl (.inl (Sy.Res.cell (ty':=54) g2 1 ((([]:List Value)++(x1.map bv)++([Value.int .u64 (x2:Int)])++(cs3)++(cs4))++([r.v]++([]:List Value))).toArray _ (by kernel_rfl) rfl Tryz.underlying54 rfl (by rw [List.size_toArray,hln]; kernel_rfl) rfl)) (λ_ h=>Sy.St.parts (ls:=[[(gr,168,rrC sl a f)],[(g2,54,((([]:List Value)++(x1.map bv)++([Value.int .u64 (x2:Int)])++(cs3)++(cs4))++([r.v]++([]:List Value))).toArray)],[(g3,54,((([]:List Value)++(x1.map bv)++([Value.int .u64 (x2:Int)])++(cs3)++(cs4))++([r.v]++([]:List Value))).toArray)],r.bl,R,N3,N4,N]) (ms:=[[(gr,168,rrC sl a f)],R,N3,N4,N,r.bl]) [[(g2,54,((([]:List Value)++(x1.map bv)++([Value.int .u64 (x2:Int)])++(cs3)++(cs4))++([r.v]++([]:List Value))).toArray)],[(g3,54,((([]:List Value)++(x1.map bv)++([Value.int .u64 (x2:Int)])++(cs3)++(cs4))++([r.v]++([]:List Value))).toArray)]] [0,4,5,6,7,3,1,2] (by kernel_rfl) (by rfl) (by simp) (by simp) h) ⟨⟨x1,x2,x3,x4,xs⟩,a,f,N3++(N4++(N++r.bl)),p1.bind (p2.bind (p3.bind (p4.bind ((q1.bind hA).bind (After.ret _ _))))),⟨((([]:List Value)++(x1.map bv)++([Value.int .u64 (x2:Int)])++(cs3)++(cs4))++([r.v]++([]:List Value))),rfl,hln,hon,hrp⟩,y2,y3,rfl⟩
 obtain ⟨l1,l2⟩:i<n∧f=0:=of_decide_eq_true hb3.symm
 obtain ⟨ys,t1,t2,t3⟩:=y5
 refine sT<|Sy.skip<|Sy.then_<|Sy.seq<|Sy.block ?_
 refine Sy.regionD (λj=>j == 3 || j == 5 || j == 7) kR ?_
 refine sb 0 rfl (.pointer (some ⟨g3,101,none⟩))<|sa 2 rfl rfl ?_
 refine Sy.joinG (T:=MOu×Nat×Nat×Nat×List Value×Blocks) (λy=>[(0,ptr gr),(2,ptr g2),(3,ptr g3),(4,.int .i64 (n:Int)),(5,.int .i64 (i:Int)),(30,r.v),(32,.agg y.2.2.2.2.1.toArray),(33,.slice (some ⟨y.2.2.2.1,0,none⟩) 1 1)]) (λy=>[(gr,168,rrC sl y.2.1 y.2.2.1),(g2,54,((([]:List Value))++(Z32++([Value.int .u64 0]++(([Value.int .i64 0]++[Value.slice none 0 0])++((Z32++(Z32++([Value.int .u64 0]++[Value.int .u64 0])))++([Value.slice none 0 0]++(([]:List Value)))))))).toArray),(g3,54,((([]:List Value)++(x1.map bv)++([Value.int .u64 (x2:Int)])++(cs3)++(cs4))++([r.v]++([]:List Value))).toArray),(y.2.2.2.1,71,y.2.2.2.2.1.toArray)]++(r.bl++((R++N3++N4)++(N++y.2.2.2.2.2)))) (λy=>After rdOU ⟨b.drop a,f⟩ y.1 ⟨b.drop y.2.1,y.2.2.1⟩∧y.2.2.2.2.1.length=58∧(∀ u∈y.2.2.2.2.1,u.oneCell'=true)∧repOU (rdB y.2.2.2.2.2) y.2.2.2.2.1 y.1∧y.2.1≤b.length∧y.2.2.1≤200) 3 #[true,true,true,true,true,false,false,false] (λy hy=>?_) (λk=>?_)
 case refine_2 =>
  refine Sy.anyOf [1,3] (by kernel_rfl) (by decide) (Sy.each2 ?_ ?_)
  ·refine Sy.oneQuiet rfl (by kernel_rfl) r.v (Quiet.cell 2 g3 101 54 24 ((([]:List Value)++(x1.map bv)++([Value.int .u64 (x2:Int)])++(cs3)++(cs4))++([r.v]++([]:List Value))).toArray _ _ rfl kR rfl Tryz.underlying24 rfl _ (by rw [List.getElem?_toArray,List.getElem?_append_right (Nat.le_of_eq L4),L4]; rfl)) ?_
   refine Sy.soleD 3 rfl (λQ2 hq2=>?_)
   refine Sy.callT (λw hw=>outM_any w0.inn gr sl b a f ((g2,54,((([]:List Value))++(Z32++([Value.int .u64 0]++(([Value.int .i64 0]++[Value.slice none 0 0])++((Z32++(Z32++([Value.int .u64 0]++[Value.int .u64 0])))++([Value.slice none 0 0]++(([]:List Value)))))))).toArray)::(g3,54,((([]:List Value)++(x1.map bv)++([Value.int .u64 (x2:Int)])++(cs3)++(cs4))++([r.v]++([]:List Value))).toArray)::(r.bl++((R++N3++N4)++N))) y2 y3 hl hv w hw) (λu M hM=>?_)
   obtain ⟨x2',a4',e4',N5,s1,⟨cx,rfl,t5,t6,t7⟩,s3,s4,rfl⟩:=hM
   refine Sy.permS (M:=[(gr,168,rrC sl a4' e4'),(g2,54,((([]:List Value))++(Z32++([Value.int .u64 0]++(([Value.int .i64 0]++[Value.slice none 0 0])++((Z32++(Z32++([Value.int .u64 0]++[Value.int .u64 0])))++([Value.slice none 0 0]++(([]:List Value)))))))).toArray),(g3,54,((([]:List Value)++(x1.map bv)++([Value.int .u64 (x2:Int)])++(cs3)++(cs4))++([r.v]++([]:List Value))).toArray)]++(r.bl++((R++N3++N4)++(N++N5)))) (List.Perm.of_eq (by simp only [List.append_assoc,List.cons_append,List.nil_append])) ?_
   refine hq2 _ _ ?_
   refine Sy.makeD 4 rfl kR kR 71 cx.toArray (λg=>.slice (some ⟨g,0,none⟩) 1 1) (Makes.one 24 71 _ _ 58 _ cx rfl kR Tryz.underlying24 info_ous rfl rfl t5 (by decide) (by decide)) (λg7=>?_)
   exact leafE k (x2',a4',e4',g7,cx,N5) ⟨s1,t5,t6,t7,s3,s4⟩ rfl (all_cons kR (all_cons kR (all_cons kR (all_cons kR (all_cons kR (all_cons kR (all_cons kR (all_cons kR all_nil)))))))) (Sy.mov_perm (pre:=[(gr,168,rrC sl a4' e4'),(g2,54,((([]:List Value))++(Z32++([Value.int .u64 0]++(([Value.int .i64 0]++[Value.slice none 0 0])++((Z32++(Z32++([Value.int .u64 0]++[Value.int .u64 0])))++([Value.slice none 0 0]++(([]:List Value)))))))).toArray),(g3,54,((([]:List Value)++(x1.map bv)++([Value.int .u64 (x2:Int)])++(cs3)++(cs4))++([r.v]++([]:List Value))).toArray)]) (T:=r.bl++((R++N3++N4)++(N++N5))))
  ·refine oneE rfl (by kernel_rfl) rfl (λQ2 hq2=>?_)
   refine Sy.callT (λw hw=>outM_any w0.inn gr sl b a f ((g2,54,((([]:List Value))++(Z32++([Value.int .u64 0]++(([Value.int .i64 0]++[Value.slice none 0 0])++((Z32++(Z32++([Value.int .u64 0]++[Value.int .u64 0])))++([Value.slice none 0 0]++(([]:List Value)))))))).toArray)::(g3,54,((([]:List Value)++(x1.map bv)++([Value.int .u64 (x2:Int)])++(cs3)++(cs4))++([r.v]++([]:List Value))).toArray)::(r.bl++((R++N3++N4)++N))) y2 y3 hl hv w hw) (λu M hM=>?_)
   obtain ⟨x2',a4',e4',N5,s1,⟨cx,rfl,t5,t6,t7⟩,s3,s4,rfl⟩:=hM
   refine Sy.permS (M:=[(gr,168,rrC sl a4' e4'),(g2,54,((([]:List Value))++(Z32++([Value.int .u64 0]++(([Value.int .i64 0]++[Value.slice none 0 0])++((Z32++(Z32++([Value.int .u64 0]++[Value.int .u64 0])))++([Value.slice none 0 0]++(([]:List Value)))))))).toArray),(g3,54,((([]:List Value)++(x1.map bv)++([Value.int .u64 (x2:Int)])++(cs3)++(cs4))++([r.v]++([]:List Value))).toArray)]++(r.bl++((R++N3++N4)++(N++N5)))) (List.Perm.of_eq (by simp only [List.append_assoc,List.cons_append,List.nil_append])) ?_
   refine hq2 _ _ ?_
   refine Sy.anyOf [1,4] (by kernel_rfl) (by decide) (Sy.each2 ?_ ?_)
   ·refine Sy.oneQuiet rfl (by kernel_rfl) r.v (Quiet.cell 2 g3 101 54 24 ((([]:List Value)++(x1.map bv)++([Value.int .u64 (x2:Int)])++(cs3)++(cs4))++([r.v]++([]:List Value))).toArray _ _ rfl kR rfl Tryz.underlying24 rfl _ (by rw [List.getElem?_toArray,List.getElem?_append_right (Nat.le_of_eq L4),L4]; rfl)) ?_
    refine Sy.makeD 4 rfl kR kR 71 cx.toArray (λg=>.slice (some ⟨g,0,none⟩) 1 1) (Makes.one 24 71 _ _ 58 _ cx rfl kR Tryz.underlying24 info_ous rfl rfl t5 (by decide) (by decide)) (λg7=>?_)
    exact leafE k (x2',a4',e4',g7,cx,N5) ⟨s1,t5,t6,t7,s3,s4⟩ rfl (all_cons kR (all_cons kR (all_cons kR (all_cons kR (all_cons kR (all_cons kR (all_cons kR (all_cons kR all_nil)))))))) (Sy.mov_perm (pre:=[(gr,168,rrC sl a4' e4'),(g2,54,((([]:List Value))++(Z32++([Value.int .u64 0]++(([Value.int .i64 0]++[Value.slice none 0 0])++((Z32++(Z32++([Value.int .u64 0]++[Value.int .u64 0])))++([Value.slice none 0 0]++(([]:List Value)))))))).toArray),(g3,54,((([]:List Value)++(x1.map bv)++([Value.int .u64 (x2:Int)])++(cs3)++(cs4))++([r.v]++([]:List Value))).toArray)]) (T:=r.bl++((R++N3++N4)++(N++N5))))
   ·refine Sy.oneMake rfl (by kernel_rfl) 71 cx.toArray (λg=>.slice (some ⟨g,0,none⟩) 1 1) (Makes.one 24 71 _ _ 58 _ cx rfl kR Tryz.underlying24 info_ous rfl rfl t5 (by decide) (by decide)) (λg7=>?_)
    refine Sy.anyOf [1] (by kernel_rfl) (by decide) (Sy.each1 ?_)
    refine Sy.oneQuiet rfl (by kernel_rfl) r.v (Quiet.cell 2 g3 101 54 24 ((([]:List Value)++(x1.map bv)++([Value.int .u64 (x2:Int)])++(cs3)++(cs4))++([r.v]++([]:List Value))).toArray _ _ rfl kR rfl Tryz.underlying24 rfl _ (by rw [List.getElem?_toArray,List.getElem?_append_right (Nat.le_of_eq L4),L4]; rfl)) ?_
    exact leafE k (x2',a4',e4',g7,cx,N5) ⟨s1,t5,t6,t7,s3,s4⟩ rfl (all_cons kR (all_cons kR (all_cons kR (all_cons kR (all_cons kR (all_cons kR (all_cons kR (all_cons kR all_nil)))))))) (Sy.mov_perm (pre:=[(gr,168,rrC sl a4' e4'),(g2,54,((([]:List Value))++(Z32++([Value.int .u64 0]++(([Value.int .i64 0]++[Value.slice none 0 0])++((Z32++(Z32++([Value.int .u64 0]++[Value.int .u64 0])))++([Value.slice none 0 0]++(([]:List Value)))))))).toArray),(g3,54,((([]:List Value)++(x1.map bv)++([Value.int .u64 (x2:Int)])++(cs3)++(cs4))++([r.v]++([]:List Value))).toArray)]) (T:=r.bl++((R++N3++N4)++(N++N5))))
 obtain ⟨z2,z4,w4,g7,cx,N6⟩:=y
 obtain ⟨s1,t5,t6,t7,s3,s4⟩:=hy
 dsimp only at s1 t5 t6 t7 s3 s4 ⊢
 refine Sy.soleD 5 rfl (λQ2 hq2=>?_)
 refine Sy.appendR (pre:=[(gr,168,rrC sl z4 w4),(g2,54,((([]:List Value))++(Z32++([Value.int .u64 0]++(([Value.int .i64 0]++[Value.slice none 0 0])++((Z32++(Z32++([Value.int .u64 0]++[Value.int .u64 0])))++([Value.slice none 0 0]++(([]:List Value)))))))).toArray),(g3,54,((([]:List Value)++(x1.map bv)++([Value.int .u64 (x2:Int)])++(cs3)++(cs4))++([r.v]++([]:List Value))).toArray),(g7,71,cx.toArray)]) (T:=(R++N3++N4)++(N++N6)) kR 24 71 _ _ 58 304 Tryz.underlying24 info_ous rfl rfl rfl rfl (by decide) _ _ rfl t1 kR cx t5 t6 3 g7 71 kR kR (by omega) (by simp only [maxLen]; omega) (λr' hr'=>?_)
 refine hq2 _ _ ?_
 refine sb 6 rfl (.pointer (some ⟨g3,101,none⟩))<|sx 7 rfl 2 rfl ((([]:List Value)++(x1.map bv)++([Value.int .u64 (x2:Int)])++(cs3)++(cs4))++([r'.v]++([]:List Value))).toArray (Writes.one 101 24 r'.v _ _ rfl kR kR kR hr'.cells.1 hr'.cells.2 (by rw [List.size_toArray,List.length_append,L4]; exact Nat.lt_succ_self 101) (set_mid L4)) ?_
 refine sE ?_
 refine Sy.in_<|Sy.then_<|Sy.region ?_
 refine sp rfl<|sS (.int .i64 ((i+1:Nat):Int)) (Quiet.pure (exec_int .add _ _ _ .i64 _ _ _ rfl rfl rfl (int_add _ _ _ _ _ ((wrap_i64 (by omega) (by omega)).trans (by omega)))))<|sp rfl ?_
 refine Sy.nil ?_
 have hrows:RowsOk 71 58 repOU r' (N++N6) (xs++[z2]):=RowsOk.add (rep:=repOU) t2 (λj x hx=>by
  obtain ⟨c,d1,d2⟩:=t3 j x hx
  exact ⟨c,d1,monoOU (rdB_le λb h=>List.mem_append_left _ h) d2⟩) hr' (monoOU (rdB_le λb h=>List.mem_append_right _ h) t7)
 exact Sy.againT ⟨z4,w4,xs++[z2],r',N++N6⟩ l1 ⟨y1.snoc s1,s3,s4,by show (xs++[_]).length=_; rw [List.length_append,y4]; rfl,hrows⟩ (all_cons kR (all_cons kR (all_cons kR (all_cons kR (all_cons kR all_nil))))) (λw h=>Sy.St.parts (ls:=[[(gr,168,rrC sl z4 w4),(g2,54,((([]:List Value))++(Z32++([Value.int .u64 0]++(([Value.int .i64 0]++[Value.slice none 0 0])++((Z32++(Z32++([Value.int .u64 0]++[Value.int .u64 0])))++([Value.slice none 0 0]++(([]:List Value)))))))).toArray),(g3,54,((([]:List Value)++(x1.map bv)++([Value.int .u64 (x2:Int)])++(cs3)++(cs4))++([r'.v]++([]:List Value))).toArray)],[(g7,71,cx.toArray)],r'.bl++((R++N3++N4)++(N++N6))]) (ms:=[[(gr,168,rrC sl z4 w4),(g2,54,((([]:List Value))++(Z32++([Value.int .u64 0]++(([Value.int .i64 0]++[Value.slice none 0 0])++((Z32++(Z32++([Value.int .u64 0]++[Value.int .u64 0])))++([Value.slice none 0 0]++(([]:List Value)))))))).toArray),(g3,54,((([]:List Value)++(x1.map bv)++([Value.int .u64 (x2:Int)])++(cs3)++(cs4))++([r'.v]++([]:List Value))).toArray)],r'.bl++((R++N3++N4)++(N++N6))]) [[(g7,71,cx.toArray)]] [0,2,1] (by kernel_rfl) (by rfl) (by simp) (by simp) h)
end Wr
end
end Go.Proofs.YtnbenphcpenbeaaGreat
