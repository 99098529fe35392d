/-
  Texts of ours, put together: ScpG, ScpH, ScpI, ScpJ, ScpK, ScpL, ScpM, ScriptMessagesL.
-/
import Derived.Test.YtgggdbjakcpanaaGreatDoorMX5
set_option linter.unusedVariables false
set_option linter.unusedSimpArgs false
namespace Go.Proofs.YtgggdbjakcpanaaGreatDoor
section
namespace Pg
open Go.RowKit Sy
set_option maxRecDepth 100000
set_option maxHeartbeats 4000000
open Wr
theorem push_ef {Tb:World→Prop} (E:Env) (m:Byt) (hm:m.length=32) (x:Opn) (hx:x.1.toNat≤64):EfC Tb E m x 243:=by
 intro w0 g s r T la l hT hok hsm hr hl hla w hw
 rw [show needs x=0 by unfold needs; rw [if_pos hx]] at hl
 have mA:∀ b∈s.bl++T,b∈MS g s m E.h r 0 T:=λb hb=>List.mem_append_right _ hb
 have mT:∀ b∈T,b∈MS g s m E.h r 0 T:=λb hb=>List.mem_append_right _ (List.mem_append_right _ hb)
 obtain rfl:l=[]:=List.eq_nil_of_length_eq_zero hl
 refine Sy.enterT (args:=[ptr g,la]) hw Tryz.func243 rfl kL ?_
 refine sC ?_
 refine sP (.slice none 0 0)<|sP (.int .i64 0) ?_
 obtain ⟨rA,rn,rc,rfl,r2,r3,r4,r5⟩:=hr
 have hr':BytR (rdC w0 T) (.slice rA rn rc) x.2:=⟨_,_,_,rfl,r2,r3,r4,r5⟩
 refine sA ?_
 refine sp rfl<|sp rfl<|sP (.pointer (some ⟨g,34,Option.none⟩))<|sS (.slice rA rn rc) (Quiet.cell 0 g 34 190 29 _ _ _ rfl kR rfl Tryz.underlying29 rfl _ (mcs_r hm)) ?_
 refine Sy.make kR 29 #[.slice rA rn rc] (λg=>.slice (some ⟨g,0,Option.none⟩) 1 1) kF (λg2=>?_)
 refine sp rfl<|sP (.int .i64 0) ?_
 refine sG<|Sy.ret ?_
 have hr2:BytR (rdC w0 (T++[])) (.slice rA rn rc) x.2:=by rw [List.append_nil]; exact hr'
 exact Sy.retT2 (MS g s m E.h (.slice rA rn rc) 0 ([(g2,29,#[.slice rA rn rc])]++(T++[]))) rfl (.inl (show _=some (.slice (some ⟨g2,0,Option.none⟩) 1 1) by kernel_rfl)) (.inl (show _=some (.int .i64 0) by kernel_rfl)) (λ_ h=>h.perm (Sy.flat_perm (ls:=[[(g,190,(mcs s.v m E.h (.slice rA rn rc) 0).toArray)],s.bl,T,[(g2,29,#[.slice rA rn rc])]]) (ms:=[[(g,190,(mcs s.v m E.h (.slice rA rn rc) 0).toArray)],s.bl,[(g2,29,#[.slice rA rn rc])],T]) [0,1,3,2] kR rfl (by simp) (by simp)))
  ⟨⟨.slice (some ⟨g2,0,Option.none⟩) 1 1,[(g2,29,#[.slice rA rn rc])]⟩,[],[(.slice rA rn rc,x.2)],by rw [does_push _ hx]; rfl,by rw [skp_no _ (by omega) (by omega)],StkY.one hr2 (by
   have h1:okO x:=hok
   unfold okO follow at h1
   rw [if_pos hx] at h1
   have h2:=Option.some.inj h1
   show x.2.length≤256
   omega),by rw [does_push _ hx]; rfl⟩
theorem verify_ef {Tb:World→Prop} (E:Env) (m:Byt) (hm:m.length=32) (x:Opn) (hx:x.1.toNat=96):EfC Tb E m x 244:=by
 intro w0 g s r T la l hT hok hsm hr hl hla w hw
 rw [show needs x=1 by unfold needs; rw [hx]; rfl] at hl
 have mA:∀ b∈s.bl++T,b∈MS g s m E.h r 0 T:=λb hb=>List.mem_append_right _ hb
 have mT:∀ b∈T,b∈MS g s m E.h r 0 T:=λb hb=>List.mem_append_right _ (List.mem_append_right _ hb)
 obtain ⟨z,rfl⟩:=List.length_eq_one_iff.1 hl
 obtain ⟨A,n,cp,rfl,a1,a2,a3,a4⟩:=hla
 obtain ⟨ga,oa,rfl,aq⟩:=a4 (by simp)
 have hn:n=1:=a1.symm
 obtain ⟨c0,d0⟩:=aq 0 z rfl
 refine Sy.enterT (args:=[ptr g,.slice (some ⟨ga,oa,Option.none⟩) n cp]) hw Tryz.func244 rfl kL ?_
 refine sC ?_
 refine sP (.slice none 0 0)<|sP (.int .i64 0) ?_
 refine sG<|Sy.seq<|sC ?_
 obtain ⟨b,hb⟩:∃ b,b=tru z.2:=⟨_,rfl⟩
 refine sp rfl<|sS (.pointer (some ⟨ga,oa+0*1,Option.none⟩)) (Quiet.pure (exec_at 66 29 _ _ ga oa n cp 0 1 .i64 rfl rfl rfl Tryz.underlying66 kF (by omega)))<|sS z.1 (cellC (R:=s.bl++T) c0 mA rfl Tryz.underlying29)<|sS (.bool b) (by rw [hb]; exact qg (λw hw=>truth_any w z.1 z.2 (d0.le (rdC_world hw mT))))<|sP (.bool (!b)) ?_
 refine sG ?_
 cases b
 case' false =>
  refine sT<|sC ?_
  refine sP (.slice none 0 0)<|sP (.int .i64 134) ?_
  refine sG<|Sy.ret<|Sy.then_ret ?_
  exact Sy.retT2 _ rfl (.inl (show _=some (.slice none 0 0) by kernel_rfl)) (.inl (show _=some (.int .i64 134) by kernel_rfl)) (λ_ h=>h) (EfR.none (e:=134) (k:=0) (by unfold does; rw [hx]; show (if tru z.2 then _ else _)=_; rw [← hb]; rfl) (skp_no _ (by omega) (by omega)))
 refine sU<|Sy.skip<|Sy.then_<|sC ?_
 refine sP (.slice none 0 0)<|sP (.int .i64 0) ?_
 refine sG<|Sy.ret ?_
 exact Sy.retT2 _ rfl (.inl (show _=some (.slice none 0 0) by kernel_rfl)) (.inl (show _=some (.int .i64 0) by kernel_rfl)) (λ_ h=>h) (EfR.none (e:=0) (k:=0) (by unfold does; rw [hx]; show (if tru z.2 then _ else _)=_; rw [← hb]; rfl) (skp_no _ (by omega) (by omega)))
theorem not_ef {Tb:World→Prop} (E:Env) (m:Byt) (hm:m.length=32) (x:Opn) (hx:x.1.toNat=97):EfC Tb E m x 245:=by
 intro w0 g s r T la l hT hok hsm hr hl hla w hw
 rw [show needs x=1 by unfold needs; rw [hx]; rfl] at hl
 have mA:∀ b∈s.bl++T,b∈MS g s m E.h r 0 T:=λb hb=>List.mem_append_right _ hb
 have mT:∀ b∈T,b∈MS g s m E.h r 0 T:=λb hb=>List.mem_append_right _ (List.mem_append_right _ hb)
 obtain ⟨z,rfl⟩:=List.length_eq_one_iff.1 hl
 obtain ⟨A,n,cp,rfl,a1,a2,a3,a4⟩:=hla
 obtain ⟨ga,oa,rfl,aq⟩:=a4 (by simp)
 have hn:n=1:=a1.symm
 obtain ⟨c0,d0⟩:=aq 0 z rfl
 refine Sy.enterT (args:=[ptr g,.slice (some ⟨ga,oa,Option.none⟩) n cp]) hw Tryz.func245 rfl kL ?_
 refine sC ?_
 refine sP (.slice none 0 0)<|sP (.int .i64 0) ?_
 refine sA ?_
 refine sp rfl<|sS (.pointer (some ⟨ga,oa+0*1,Option.none⟩)) (Quiet.pure (exec_at 66 29 _ _ ga oa n cp 0 1 .i64 rfl rfl rfl Tryz.underlying66 kF (by omega)))<|sS z.1 (cellC (R:=s.bl++T) c0 mA rfl Tryz.underlying29)<|sS (.bool (tru z.2)) (qg (λw hw=>truth_any w z.1 z.2 (d0.le (rdC_world hw mT))))<|sP (.bool (!(tru z.2))) ?_
 refine Sy.callT (λw hw=>result_any w0.inn _ (!(tru z.2)) w hw) (λv M hM=>?_)
 obtain ⟨g1,g2,n1,rfl,rfl,hn1⟩:=hM
 refine sp rfl<|sp rfl<|sp rfl<|sp rfl ?_
 refine sG<|Sy.ret ?_
 exact Sy.retT2 _ rfl (.inl (show _=some (.slice (some ⟨g2,0,Option.none⟩) 1 1) by kernel_rfl)) (.inl (show _=some (.int .i64 0) by kernel_rfl)) (λ_ h=>RsR.st h) (RsR.ef (by unfold does; rw [hx]; rfl) (skp_no _ (by omega) (by omega)) hn1)
theorem equal_ef {Tb:World→Prop} (E:Env) (m:Byt) (hm:m.length=32) (x:Opn) (hx:x.1.toNat=98):EfC Tb E m x 246:=by
 intro w0 g s r T la l hT hok hsm hr hl hla w hw
 rw [show needs x=2 by unfold needs; rw [hx]; rfl] at hl
 have mA:∀ b∈s.bl++T,b∈MS g s m E.h r 0 T:=λb hb=>List.mem_append_right _ hb
 have mT:∀ b∈T,b∈MS g s m E.h r 0 T:=λb hb=>List.mem_append_right _ (List.mem_append_right _ hb)
 obtain ⟨z,y,rfl⟩:=len2 hl
 obtain ⟨A,n,cp,rfl,a1,a2,a3,a4⟩:=hla
 obtain ⟨ga,oa,rfl,aq⟩:=a4 (by simp)
 have hn:n=2:=a1.symm
 obtain ⟨c0,d0⟩:=aq 0 z rfl
 obtain ⟨c1,d1⟩:=aq 1 y rfl
 refine Sy.enterT (args:=[ptr g,.slice (some ⟨ga,oa,Option.none⟩) n cp]) hw Tryz.func246 rfl kL ?_
 refine sC ?_
 refine sP (.slice none 0 0)<|sP (.int .i64 0) ?_
 refine Sy.nil<|Sy.then_<|Sy.seq ?_
 refine Sy.regionD (λj=>j == 7) kR ?_
 refine sa 0 rfl rfl<|sv 1 rfl (.pointer (some ⟨ga,oa+0*1,Option.none⟩)) (exec_at 66 29 _ _ ga oa n cp 0 1 .i64 rfl rfl rfl Tryz.underlying66 kF (by omega))<|se 2 [6,7,8,9,10,11] rfl z.1 (cellC (R:=s.bl++T) c0 mA rfl Tryz.underlying29)<|sa 3 rfl rfl<|sv 4 rfl (.pointer (some ⟨ga,oa+1*1,Option.none⟩)) (exec_at 66 29 _ _ ga oa n cp 1 1 .i64 rfl rfl rfl Tryz.underlying66 kF (by omega))<|se 5 [6,7,8,9,10,11] rfl y.1 (cellC (R:=s.bl++T) c1 mA rfl Tryz.underlying29)<|sD 6 rfl (.bool (decide (z.2=y.2))) (qg (λw hw=>bytes_equal w z.1 y.1 z.2 y.2 (d0.le (rdC_world hw mT)) (d1.le (rdC_world hw mT)))) ?_
 refine Sy.soleD 7 rfl (λQ2 hq2=>?_)
 refine Sy.callT (λw hw=>result_any w0.inn _ (decide (z.2=y.2)) w hw) (λv M hM=>?_)
 obtain ⟨g1,g2,n1,rfl,rfl,hn1⟩:=hM
 refine hq2 _ _ ?_
 refine sa 8 rfl rfl<|sa 9 rfl rfl<|sa 10 rfl rfl<|sa 11 rfl rfl ?_
 refine sI ?_
 refine Sy.ret ?_
 exact Sy.retT2 _ rfl (.inl (show _=some (.slice (some ⟨g2,0,Option.none⟩) 1 1) by kernel_rfl)) (.inl (show _=some (.int .i64 0) by kernel_rfl)) (λ_ h=>RsR.st h) (RsR.ef (by unfold does; rw [hx]; rfl) (skp_no _ (by omega) (by omega)) hn1)
theorem dup_ef {Tb:World→Prop} (E:Env) (m:Byt) (hm:m.length=32) (x:Opn) (hx:x.1.toNat=99):EfC Tb E m x 247:=by
 intro w0 g s r T la l hT hok hsm hr hl hla w hw
 rw [show needs x=1 by unfold needs; rw [hx]; rfl] at hl
 have mA:∀ b∈s.bl++T,b∈MS g s m E.h r 0 T:=λb hb=>List.mem_append_right _ hb
 have mT:∀ b∈T,b∈MS g s m E.h r 0 T:=λb hb=>List.mem_append_right _ (List.mem_append_right _ hb)
 obtain ⟨z,rfl⟩:=List.length_eq_one_iff.1 hl
 obtain ⟨A,n,cp,rfl,a1,a2,a3,a4⟩:=hla
 obtain ⟨ga,oa,rfl,aq⟩:=a4 (by simp)
 have hn:n=1:=a1.symm
 obtain ⟨c0,d0⟩:=aq 0 z rfl
 refine Sy.enterT (args:=[ptr g,.slice (some ⟨ga,oa,Option.none⟩) n cp]) hw Tryz.func247 rfl kL ?_
 refine sC ?_
 refine sP (.slice none 0 0)<|sP (.int .i64 0) ?_
 obtain ⟨zA,zn,zc,ez,z2,z3,z4,z5⟩:=d0
 have d0:BytR (rdC w0 T) z.1 z.2:=⟨zA,zn,zc,ez,z2,z3,z4,z5⟩
 refine Sy.nil<|Sy.then_<|Sy.seq ?_
 refine Sy.regionD (λ_=>false) kR ?_
 refine sa 0 rfl rfl<|sv 1 rfl (.pointer (some ⟨ga,oa+0*1,Option.none⟩)) (exec_at 66 29 _ _ ga oa n cp 0 1 .i64 rfl rfl rfl Tryz.underlying66 kF (by omega))<|sD 2 rfl (.slice zA zn zc) (by rw [← ez]; exact cellC (R:=s.bl++T) c0 mA rfl Tryz.underlying29)<|sa 3 rfl rfl<|sv 4 rfl (.pointer (some ⟨ga,oa+0*1,Option.none⟩)) (exec_at 66 29 _ _ ga oa n cp 0 1 .i64 rfl rfl rfl Tryz.underlying66 kF (by omega))<|sD 5 rfl (.slice zA zn zc) (by rw [← ez]; exact cellC (R:=s.bl++T) c0 mA rfl Tryz.underlying29) ?_
 refine Sy.makeD 6 rfl kR kR 29 #[.slice zA zn zc,.slice zA zn zc] (λg=>.slice (some ⟨g,0,Option.none⟩) 2 2) kF (λg2=>?_)
 refine sz 7 rfl rfl<|sZ 8 rfl (.int .i64 0) ?_
 refine sI ?_
 refine Sy.ret ?_
 have e1:BytR (rdC w0 (T++[])) (.slice zA zn zc) z.2:=by rw [List.append_nil, ← ez]; exact d0
 have e2:BytR (rdC w0 (T++[])) (.slice zA zn zc) z.2:=by rw [List.append_nil, ← ez]; exact d0
 exact Sy.retT2 (MS g s m E.h r 0 ([(g2,29,#[.slice zA zn zc,.slice zA zn zc])]++(T++[]))) rfl (.inl (show _=some (.slice (some ⟨g2,0,Option.none⟩) 2 2) by kernel_rfl)) (.inl (show _=some (.int .i64 0) by kernel_rfl)) (λ_ h=>h.perm (Sy.flat_perm (ls:=[[(g,190,(mcs s.v m E.h r 0).toArray)],s.bl,T,[(g2,29,#[.slice zA zn zc,.slice zA zn zc])]]) (ms:=[[(g,190,(mcs s.v m E.h r 0).toArray)],s.bl,[(g2,29,#[.slice zA zn zc,.slice zA zn zc])],T]) [0,1,3,2] kR rfl (by simp) (by simp)))
  ⟨⟨.slice (some ⟨g2,0,Option.none⟩) 2 2,[(g2,29,#[.slice zA zn zc,.slice zA zn zc])]⟩,[],[(.slice zA zn zc,z.2),(.slice zA zn zc,z.2)],by rw [show does E x _=(0,[z.2,z.2]) by unfold does; rw [hx]; rfl]; rfl,by rw [skp_no _ (by omega) (by omega)],StkY.two e1 e2 (hsm _ (by simp)) (hsm _ (by simp)),by rw [show does E x _=(0,[z.2,z.2]) by unfold does; rw [hx]; rfl]; rfl⟩
theorem drop_ef {Tb:World→Prop} (E:Env) (m:Byt) (hm:m.length=32) (x:Opn) (hx:x.1.toNat=100):EfC Tb E m x 248:=by
 intro w0 g s r T la l hT hok hsm hr hl hla w hw
 rw [show needs x=1 by unfold needs; rw [hx]; rfl] at hl
 have mA:∀ b∈s.bl++T,b∈MS g s m E.h r 0 T:=λb hb=>List.mem_append_right _ hb
 have mT:∀ b∈T,b∈MS g s m E.h r 0 T:=λb hb=>List.mem_append_right _ (List.mem_append_right _ hb)
 obtain ⟨z,rfl⟩:=List.length_eq_one_iff.1 hl
 obtain ⟨A,n,cp,rfl,a1,a2,a3,a4⟩:=hla
 obtain ⟨ga,oa,rfl,aq⟩:=a4 (by simp)
 have hn:n=1:=a1.symm
 obtain ⟨c0,d0⟩:=aq 0 z rfl
 refine Sy.enterT (args:=[ptr g,.slice (some ⟨ga,oa,Option.none⟩) n cp]) hw Tryz.func248 rfl kL ?_
 refine sC ?_
 refine sP (.slice none 0 0)<|sP (.int .i64 0) ?_
 refine sA ?_
 refine sP (.slice none 0 0)<|sP (.int .i64 0) ?_
 refine sG<|Sy.ret ?_
 exact Sy.retT2 _ rfl (.inl (show _=some (.slice none 0 0) by kernel_rfl)) (.inl (show _=some (.int .i64 0) by kernel_rfl)) (λ_ h=>h) (EfR.none (e:=0) (k:=0) (by unfold does; rw [hx]; rfl) (skp_no _ (by omega) (by omega)))
theorem swap_ef {Tb:World→Prop} (E:Env) (m:Byt) (hm:m.length=32) (x:Opn) (hx:x.1.toNat=101):EfC Tb E m x 249:=by
 intro w0 g s r T la l hT hok hsm hr hl hla w hw
 rw [show needs x=2 by unfold needs; rw [hx]; rfl] at hl
 have mA:∀ b∈s.bl++T,b∈MS g s m E.h r 0 T:=λb hb=>List.mem_append_right _ hb
 have mT:∀ b∈T,b∈MS g s m E.h r 0 T:=λb hb=>List.mem_append_right _ (List.mem_append_right _ hb)
 obtain ⟨z,y,rfl⟩:=len2 hl
 obtain ⟨A,n,cp,rfl,a1,a2,a3,a4⟩:=hla
 obtain ⟨ga,oa,rfl,aq⟩:=a4 (by simp)
 have hn:n=2:=a1.symm
 obtain ⟨c0,d0⟩:=aq 0 z rfl
 obtain ⟨c1,d1⟩:=aq 1 y rfl
 refine Sy.enterT (args:=[ptr g,.slice (some ⟨ga,oa,Option.none⟩) n cp]) hw Tryz.func249 rfl kL ?_
 refine sC ?_
 refine sP (.slice none 0 0)<|sP (.int .i64 0) ?_
 obtain ⟨zA,zn,zc,ez,z2,z3,z4,z5⟩:=d0
 have d0:BytR (rdC w0 T) z.1 z.2:=⟨zA,zn,zc,ez,z2,z3,z4,z5⟩
 obtain ⟨yA,yn,yc,ey,y2,y3,y4,y5⟩:=d1
 have d1:BytR (rdC w0 T) y.1 y.2:=⟨yA,yn,yc,ey,y2,y3,y4,y5⟩
 refine Sy.nil<|Sy.then_<|Sy.seq ?_
 refine Sy.regionD (λ_=>false) kR ?_
 refine sa 0 rfl rfl<|sv 1 rfl (.pointer (some ⟨ga,oa+1*1,Option.none⟩)) (exec_at 66 29 _ _ ga oa n cp 1 1 .i64 rfl rfl rfl Tryz.underlying66 kF (by omega))<|sD 2 rfl (.slice yA yn yc) (by rw [← ey]; exact cellC (R:=s.bl++T) c1 mA rfl Tryz.underlying29)<|sa 3 rfl rfl<|sv 4 rfl (.pointer (some ⟨ga,oa+0*1,Option.none⟩)) (exec_at 66 29 _ _ ga oa n cp 0 1 .i64 rfl rfl rfl Tryz.underlying66 kF (by omega))<|sD 5 rfl (.slice zA zn zc) (by rw [← ez]; exact cellC (R:=s.bl++T) c0 mA rfl Tryz.underlying29) ?_
 refine Sy.makeD 6 rfl kR kR 29 #[.slice yA yn yc,.slice zA zn zc] (λg=>.slice (some ⟨g,0,Option.none⟩) 2 2) kF (λg2=>?_)
 refine sz 7 rfl rfl<|sZ 8 rfl (.int .i64 0) ?_
 refine sI ?_
 refine Sy.ret ?_
 have e1:BytR (rdC w0 (T++[])) (.slice yA yn yc) y.2:=by rw [List.append_nil, ← ey]; exact d1
 have e2:BytR (rdC w0 (T++[])) (.slice zA zn zc) z.2:=by rw [List.append_nil, ← ez]; exact d0
 exact Sy.retT2 (MS g s m E.h r 0 ([(g2,29,#[.slice yA yn yc,.slice zA zn zc])]++(T++[]))) rfl (.inl (show _=some (.slice (some ⟨g2,0,Option.none⟩) 2 2) by kernel_rfl)) (.inl (show _=some (.int .i64 0) by kernel_rfl)) (λ_ h=>h.perm (Sy.flat_perm (ls:=[[(g,190,(mcs s.v m E.h r 0).toArray)],s.bl,T,[(g2,29,#[.slice yA yn yc,.slice zA zn zc])]]) (ms:=[[(g,190,(mcs s.v m E.h r 0).toArray)],s.bl,[(g2,29,#[.slice yA yn yc,.slice zA zn zc])],T]) [0,1,3,2] kR rfl (by simp) (by simp)))
  ⟨⟨.slice (some ⟨g2,0,Option.none⟩) 2 2,[(g2,29,#[.slice yA yn yc,.slice zA zn zc])]⟩,[],[(.slice yA yn yc,y.2),(.slice zA zn zc,z.2)],by rw [show does E x _=(0,[y.2,z.2]) by unfold does; rw [hx]; rfl]; rfl,by rw [skp_no _ (by omega) (by omega)],StkY.two e1 e2 (hsm _ (by simp)) (hsm _ (by simp)),by rw [show does E x _=(0,[y.2,z.2]) by unfold does; rw [hx]; rfl]; rfl⟩
theorem after_ef {Tb:World→Prop} (E:Env) (m:Byt) (hm:m.length=32) (x:Opn) (hx:x.1.toNat=105):EfC Tb E m x 253:=by
 intro w0 g s r T la l hT hok hsm hr hl hla w hw
 rw [show needs x=1 by unfold needs; rw [hx]; rfl] at hl
 have mA:∀ b∈s.bl++T,b∈MS g s m E.h r 0 T:=λb hb=>List.mem_append_right _ hb
 have mT:∀ b∈T,b∈MS g s m E.h r 0 T:=λb hb=>List.mem_append_right _ (List.mem_append_right _ hb)
 obtain ⟨z,rfl⟩:=List.length_eq_one_iff.1 hl
 obtain ⟨A,n,cp,rfl,a1,a2,a3,a4⟩:=hla
 obtain ⟨ga,oa,rfl,aq⟩:=a4 (by simp)
 have hn:n=1:=a1.symm
 obtain ⟨c0,d0⟩:=aq 0 z rfl
 refine Sy.enterT (args:=[ptr g,.slice (some ⟨ga,oa,Option.none⟩) n cp]) hw Tryz.func253 rfl kL ?_
 refine sC ?_
 refine sP (.slice none 0 0)<|sP (.int .i64 0) ?_
 refine sG<|Sy.seq<|Sy.seq ?_
 refine Sy.regionD (λ_=>false) kR ?_
 obtain ⟨zA,zn,zc,ez,z2,z3,z4,z5⟩:=d0
 have d0:BytR (rdC w0 T) z.1 z.2:=⟨zA,zn,zc,ez,z2,z3,z4,z5⟩
 have hzm:zc<9223372036854775808:=by simp only [maxLen] at z4; omega
 obtain ⟨b1,hb1⟩:∃ t_:Bool,t_=decide (8<zn):=⟨_,rfl⟩
 refine sa 0 rfl rfl<|sv 1 rfl (.pointer (some ⟨ga,oa+0*1,Option.none⟩)) (exec_at 66 29 _ _ ga oa n cp 0 1 .i64 rfl rfl rfl Tryz.underlying66 kF (by omega))<|sD 2 rfl (.slice zA zn zc) (by rw [← ez]; exact cellC (R:=s.bl++T) c0 mA rfl Tryz.underlying29)<|sb 3 rfl (.int .i64 (zn:Int))<|sv 4 rfl (.bool b1) (exec_int .gtr _ _ _ .i64 _ _ _ rfl rfl rfl (int_gtr _ _ _ _ _ (by rw [hb1]; exact decide_eq_decide.2 (by omega))))<|sa 5 rfl rfl ?_
 cases b1
 case' true =>
  have l1:8<zn:=of_decide_eq_true hb1.symm
  refine sQ 6 rfl<|sQ 7 rfl<|sQ 8 rfl<|sQ 9 rfl<|sQ 10 rfl<|sQ 11 rfl<|sQ 12 rfl<|sQ 13 rfl<|sQ 14 rfl<|sZ 15 rfl (.bool true) ?_
  refine sI ?_
  refine sT<|sC ?_
  refine sP (.slice none 0 0)<|sP (.int .i64 136) ?_
  refine sG<|Sy.ret<|Sy.then_ret ?_
  exact Sy.retT2 _ rfl (.inl (show _=some (.slice none 0 0) by kernel_rfl)) (.inl (show _=some (.int .i64 136) by kernel_rfl)) (λ_ h=>h) (EfR.none (e:=136) (k:=0) (by unfold does; rw [hx]; show (if 8<z.2.length∨E.h<said z.2 then _ else _)=_; rw [if_pos (.inl (by omega))]) (skp_no _ (by omega) (by omega)))
 have l1:¬ 8<zn:=of_decide_eq_false hb1.symm
 obtain ⟨b2,hb2⟩:∃ t_:Bool,t_=decide (E.h<said z.2):=⟨_,rfl⟩
 refine sa 6 rfl rfl<|sa 7 rfl rfl<|sb 8 rfl (.pointer (some ⟨g,33,Option.none⟩))<|sD 9 rfl (.int .u64 ((E.h:Nat):Int)) (Quiet.cell 0 g 33 190 22 _ _ _ rfl kR rfl Tryz.underlying22 rfl _ (mcs_h hm))<|sa 10 rfl rfl<|sv 11 rfl (.pointer (some ⟨ga,oa+0*1,Option.none⟩)) (exec_at 66 29 _ _ ga oa n cp 0 1 .i64 rfl rfl rfl Tryz.underlying66 kF (by omega))<|sD 12 rfl (.slice zA zn zc) (by rw [← ez]; exact cellC (R:=s.bl++T) c0 mA rfl Tryz.underlying29)<|sD 13 rfl (.int .u64 ((said z.2:Nat):Int)) (by rw [← ez]; exact qg (args:=#[z.1]) (λw hw=>numb_any w z.1 z.2 (by omega) (d0.le (rdC_world hw mT))) (λ_=>by rw [ez]; kernel_rfl))<|sv 14 rfl (.bool b2) (exec_int .lss _ _ _ .u64 _ _ _ rfl rfl rfl (int_lss _ _ _ _ _ (by rw [hb2]; exact decide_eq_decide.2 (by omega))))<|sZ 15 rfl (.bool b2) ?_
 refine sI ?_
 cases b2
 case' true =>
  have l2:E.h<said z.2:=of_decide_eq_true hb2.symm
  refine sT<|sC ?_
  refine sP (.slice none 0 0)<|sP (.int .i64 136) ?_
  refine sG<|Sy.ret<|Sy.then_ret ?_
  exact Sy.retT2 _ rfl (.inl (show _=some (.slice none 0 0) by kernel_rfl)) (.inl (show _=some (.int .i64 136) by kernel_rfl)) (λ_ h=>h) (EfR.none (e:=136) (k:=0) (by unfold does; rw [hx]; show (if 8<z.2.length∨E.h<said z.2 then _ else _)=_; rw [if_pos (.inr l2)]) (skp_no _ (by omega) (by omega)))
 have l2:¬ E.h<said z.2:=of_decide_eq_false hb2.symm
 refine sU<|Sy.skip<|Sy.then_<|sC ?_
 refine sP (.slice none 0 0)<|sP (.int .i64 0) ?_
 refine sG<|Sy.ret ?_
 exact Sy.retT2 _ rfl (.inl (show _=some (.slice none 0 0) by kernel_rfl)) (.inl (show _=some (.int .i64 0) by kernel_rfl)) (λ_ h=>h) (EfR.none (e:=0) (k:=0) (by unfold does; rw [hx]; show (if 8<z.2.length∨E.h<said z.2 then _ else _)=_; rw [if_neg (by rintro (h | h) <;> omega)]) (skp_no _ (by omega) (by omega)))
theorem branch_ef {Tb:World→Prop} (E:Env) (m:Byt) (hm:m.length=32) (x:Opn) (hx:x.1.toNat=106):EfC Tb E m x 254:=by
 intro w0 g s r T la l hT hok hsm hr hl hla w hw
 rw [show needs x=1 by unfold needs; rw [hx]; rfl] at hl
 have mA:∀ b∈s.bl++T,b∈MS g s m E.h r 0 T:=λb hb=>List.mem_append_right _ hb
 have mT:∀ b∈T,b∈MS g s m E.h r 0 T:=λb hb=>List.mem_append_right _ (List.mem_append_right _ hb)
 obtain ⟨z,rfl⟩:=List.length_eq_one_iff.1 hl
 obtain ⟨A,n,cp,rfl,a1,a2,a3,a4⟩:=hla
 obtain ⟨ga,oa,rfl,aq⟩:=a4 (by simp)
 have hn:n=1:=a1.symm
 obtain ⟨c0,d0⟩:=aq 0 z rfl
 refine Sy.enterT (args:=[ptr g,.slice (some ⟨ga,oa,Option.none⟩) n cp]) hw Tryz.func254 rfl kL ?_
 refine sC ?_
 refine sP (.slice none 0 0)<|sP (.int .i64 0) ?_
 refine sG<|Sy.seq<|sC ?_
 obtain ⟨b,hb⟩:∃ b,b=tru z.2:=⟨_,rfl⟩
 refine sp rfl<|sS (.pointer (some ⟨ga,oa+0*1,Option.none⟩)) (Quiet.pure (exec_at 66 29 _ _ ga oa n cp 0 1 .i64 rfl rfl rfl Tryz.underlying66 kF (by omega)))<|sS z.1 (cellC (R:=s.bl++T) c0 mA rfl Tryz.underlying29)<|sS (.bool b) (by rw [hb]; exact qg (λw hw=>truth_any w z.1 z.2 (d0.le (rdC_world hw mT))))<|sP (.bool (!b)) ?_
 refine sG ?_
 cases b
 case' false =>
  refine sT<|Sy.region ?_
  refine sp rfl<|sp rfl<|sP (.pointer (some ⟨g,35,Option.none⟩))<|sw 0 rfl (mcs s.v m E.h r 1).toArray (Writes.one 35 3 (.int .i64 1) _ _ rfl kR kR kR rfl rfl (by rw [List.size_toArray,mcs_len hm]; decide) (mcs_setk hm 1)) ?_
  refine Sy.nil<|Sy.then_<|sC ?_
  refine sP (.slice none 0 0)<|sP (.int .i64 0) ?_
  refine sG<|Sy.ret ?_
  exact Sy.retT2 _ rfl (.inl (show _=some (.slice none 0 0) by kernel_rfl)) (.inl (show _=some (.int .i64 0) by kernel_rfl)) (λ_ h=>h) (EfR.none (e:=0) (k:=1) (by unfold does; rw [hx]; rfl) (by unfold skp; rw [if_pos (.inr ⟨hx,hb.symm⟩)]))
 refine sU<|Sy.skip<|Sy.then_<|sC ?_
 refine sP (.slice none 0 0)<|sP (.int .i64 0) ?_
 refine sG<|Sy.ret ?_
 exact Sy.retT2 _ rfl (.inl (show _=some (.slice none 0 0) by kernel_rfl)) (.inl (show _=some (.int .i64 0) by kernel_rfl)) (λ_ h=>h) (EfR.none (e:=0) (k:=0) (by unfold does; rw [hx]; rfl) (skp_yes hx hb.symm))
theorem other_ef {Tb:World→Prop} (E:Env) (m:Byt) (hm:m.length=32) (x:Opn) (hx:x.1.toNat=107):EfC Tb E m x 255:=by
 intro w0 g s r T la l hT hok hsm hr hl hla w hw
 rw [show needs x=0 by unfold needs; rw [hx]; rfl] at hl
 have mA:∀ b∈s.bl++T,b∈MS g s m E.h r 0 T:=λb hb=>List.mem_append_right _ hb
 have mT:∀ b∈T,b∈MS g s m E.h r 0 T:=λb hb=>List.mem_append_right _ (List.mem_append_right _ hb)
 obtain rfl:l=[]:=List.eq_nil_of_length_eq_zero hl
 refine Sy.enterT (args:=[ptr g,la]) hw Tryz.func255 rfl kL ?_
 refine sC ?_
 refine sP (.slice none 0 0)<|sP (.int .i64 0) ?_
 refine sA ?_
 refine sp rfl<|sp rfl<|sP (.pointer (some ⟨g,35,Option.none⟩))<|sw 0 rfl (mcs s.v m E.h r 1).toArray (Writes.one 35 3 (.int .i64 1) _ _ rfl kR kR kR rfl rfl (by rw [List.size_toArray,mcs_len hm]; decide) (mcs_setk hm 1)) ?_
 refine sA ?_
 refine sP (.slice none 0 0)<|sP (.int .i64 0) ?_
 refine sG<|Sy.ret ?_
 exact Sy.retT2 _ rfl (.inl (show _=some (.slice none 0 0) by kernel_rfl)) (.inl (show _=some (.int .i64 0) by kernel_rfl)) (λ_ h=>h) (EfR.none (e:=0) (k:=1) (by unfold does; rw [hx]; rfl) (by unfold skp; rw [if_pos (.inl hx)]))
theorem end_ef {Tb:World→Prop} (E:Env) (m:Byt) (hm:m.length=32) (x:Opn) (hx:x.1.toNat=108):EfC Tb E m x 256:=by
 intro w0 g s r T la l hT hok hsm hr hl hla w hw
 rw [show needs x=0 by unfold needs; rw [hx]; rfl] at hl
 have mA:∀ b∈s.bl++T,b∈MS g s m E.h r 0 T:=λb hb=>List.mem_append_right _ hb
 have mT:∀ b∈T,b∈MS g s m E.h r 0 T:=λb hb=>List.mem_append_right _ (List.mem_append_right _ hb)
 obtain rfl:l=[]:=List.eq_nil_of_length_eq_zero hl
 refine Sy.enterT (args:=[ptr g,la]) hw Tryz.func256 rfl kL ?_
 refine sC ?_
 refine sP (.slice none 0 0)<|sP (.int .i64 0) ?_
 refine sA ?_
 refine sP (.slice none 0 0)<|sP (.int .i64 0) ?_
 refine sG<|Sy.ret ?_
 exact Sy.retT2 _ rfl (.inl (show _=some (.slice none 0 0) by kernel_rfl)) (.inl (show _=some (.int .i64 0) by kernel_rfl)) (λ_ h=>h) (EfR.none (e:=0) (k:=0) (by unfold does; rw [hx]; rfl) (skp_no _ (by omega) (by omega)))
end Pg
end
section
namespace Pg
open Go.RowKit Sy
set_option maxRecDepth 100000
set_option maxHeartbeats 4000000
open Wr
section
variable {P:Program} {F:Slots} {o:Oper}
theorem exec_fromT (t e:TypeId) (x kx:Operand) (A:Option Addr) (n cp k:Nat) (ht:P.underlying t=some (.slice (P.elem t))) (hs:∀ w,(sizeOf (P.elem t)).run P w=.ok 1 w) (ho:o.op=.slice t x (some kx) none none) (hx:evF F x=.slice A n cp) (hk:evF F kx=.int .i64 (k:Int)) (h:k≤n) (w:World):(execOp (evF F) o).run P w=.ok (.value (sliced A k n cp 1)) w:=by
 have e:(Instr.sliceAt t (.slice A n cp) (some (.int .i64 (k:Int))) none none).run P w=.ok (sliced A k n cp 1) w:=by
  rw [run_sliceAt_slice w t _ _ _ _ ht,run_slice_l w t A n cp ht .i64 k (by omega) (by omega),hs,Result.andThen_ok,Int.toNat_natCast]
 unfold execOp
 simp only [ho,hx,hk,Option.map_some,Option.map_none,e,Sem.run_bind,Sem.run_pure,Result.andThen_ok]
theorem exec_nil0 (t:TypeId) (x hx':Operand) (ht:P.underlying t=some (.slice (P.elem t))) (hs:∀ w,(sizeOf (P.elem t)).run P w=.ok 1 w) (ho:o.op=.slice t x none (some hx') none) (hx:evF F x=.slice none 0 0) (hk:evF F hx'=.int .i64 ((0:Nat):Int)) (w:World):(execOp (evF F) o).run P w=.ok (.value (.slice none 0 0)) w:=by
 have e:(Instr.sliceAt t (.slice none 0 0) none (some (.int .i64 ((0:Nat):Int))) none).run P w=.ok (.slice none 0 0) w:=by
  rw [run_sliceAt_slice w t _ _ _ _ ht]
  simp [Instr.slice,run_underlying ht,Instr.sliceBounds,Instr.sliceBound,asIntOf,hs,Result.andThen]
 unfold execOp
 simp only [ho,hx,hk,Option.map_some,Option.map_none,e,Sem.run_bind,Sem.run_pure,Result.andThen_ok]
theorem Slc_cut {y:Slc} {e:TypeId} {xs:List (List Value)} (hy:y.Is e 1 xs) {j:Nat} (hj:j≤xs.length):∃ y0:Slc,y0.bl=y.bl∧y0.Is e 1 (xs.take j)∧∀ {P:Program} {F:Slots} {o:Oper} (t:TypeId) (x hx':Operand),P.underlying t=some (.slice (P.elem t))→(∀ w,(sizeOf (P.elem t)).run P w=.ok 1 w)→o.op=.slice t x none (some hx') none→evF F x=y.v→evF F hx'=.int .i64 ((j:Nat):Int)→∀ w,(execOp (evF F) o).run P w=.ok (.value y0.v) w:=by
 rcases hy.row with ⟨rfl,rfl⟩ | ⟨g,cap,rr,rfl,h1,h2,h3⟩
 ·obtain rfl:j=0:=by simpa using hj
  exact ⟨nilS,rfl,Slc.Is.nil _ _,λt x hx' ht hs ho hx hk w=>exec_nil0 t x hx' ht hs ho hx hk w⟩
 ·refine ⟨⟨.slice (some ⟨g,0,none⟩) j cap,[(g,e,(xs.flatten++rr).toArray)]⟩,rfl,?_,λt x hx' ht hs ho hx hk w=>exec_upto t x hx' g 0 xs.length cap j 1 .i64 ho hx hk ht hs (by omega) w⟩
  have hl:∀ x∈xs.take j,x.length=1:=λx hx=>hy.len x (List.mem_of_mem_take hx)
  refine Slc.Is.mk' hl (λx hx=>hy.one x (List.mem_of_mem_take hx)) (by rw [List.length_take]; omega) ?_ ?_ (by omega) h3
  ·have e1:xs.flatten=(xs.take j).flatten++(xs.drop j).flatten:=by rw [← List.flatten_append,List.take_append_drop]
   have e2:(xs.take j).flatten.length=j*1:=by rw [flat_len' hl,List.length_take]; congr 1; omega
   rw [e1,List.append_assoc, ← e2,List.take_left]
  ·rw [List.length_append,flat_len' hy.len]; omega
theorem Slc_from {w0:Base} {L:Blocks} {y:Slc} {e:TypeId} {sz:Nat} {xs:List (List Value)} (hy:y.Is e sz xs) (hL:∀ b∈y.bl,b∈L):∃ A c,y.v=.slice A xs.length c∧xs.length≤c∧From w0 L A xs.flatten:=by
 rcases hy.row with ⟨rfl,rfl⟩ | ⟨g,cap,rr,rfl,h1,h2,h3⟩
 ·exact ⟨none,0,rfl,Nat.le_refl _,λ_ _=>.inl rfl⟩
 ·obtain ⟨i,hi⟩:=List.getElem?_of_mem (hL _ (List.mem_singleton.2 rfl))
  exact ⟨some ⟨g,0,none⟩,cap,rfl,h2,From.blk hi (by rw [List.drop_zero]; exact List.take_left)⟩
theorem Slc_arg {w0:Base} {T:Blocks} {y:Slc} {zs:List (Value×Byt)} (hy:StkY (rdC w0 T) y zs):∃ A cp,y.v=.slice A zs.length cp∧cp≤maxLen∧∀ j,j≤zs.length→Arg (rdC w0 T) (rdC w0 (y.bl++T)) (sliced A j zs.length cp 1) (zs.drop j):=by
 have hb:=hy.byt
 rcases hy.row.row with ⟨e1,e2⟩ | ⟨g,cap,rr,e2,h1,h2,h3⟩
 ·obtain rfl:zs=[]:=List.map_eq_nil_iff.1 e1
  refine ⟨none,0,by rw [e2]; rfl,Nat.zero_le _,λj hj=>?_⟩
  obtain rfl:j=0:=by simpa using hj
  exact ⟨none,0,0,rfl,rfl,Nat.le_refl _,Nat.zero_le _,λh=>(h rfl).elim⟩
 ·rw [List.length_map] at h1 h2
  refine ⟨some ⟨g,0,none⟩,cap,by rw [e2,List.length_map],h3,λj hj=>⟨_,_,_,rfl,by rw [List.length_drop],by omega,by omega,λhne=>?_⟩⟩
  have hlt:j<zs.length:=by
   rcases Nat.lt_or_ge j zs.length with h | h
   ·exact h
   ·exact (hne (List.drop_of_length_le h)).elim
  refine ⟨g,j,?_,λi z hz=>?_⟩
  ·rw [if_neg (by omega),Option.map_some,addr_off,Nat.mul_one,Nat.zero_add]
  ·rw [List.getElem?_drop] at hz
   refine ⟨.inr ⟨29,_,List.mem_append_left _ (by rw [e2]; exact List.mem_singleton.2 rfl),?_⟩,hb z (List.mem_of_getElem? hz)⟩
   have hf:(zs.map λz=>[z.1]).flatten=zs.map (·.1):=by
    clear hz hlt hne h1 h2 e2 hb hy hj
    induction zs with
    | nil=>rfl
    | cons a l ih=>show a.1::(l.map λz=>[z.1]).flatten=_; rw [ih]; rfl
   rw [hf,List.getElem?_toArray,List.getElem?_append_left (by rw [List.length_map]; exact (List.getElem?_eq_some_iff.1 hz).1),List.getElem?_map,hz]
   rfl
theorem exec_callF {f:FuncId} {u la:Value} {x y:Operand} {ts:Array TypeId} (ho:o.op=.call { callee:=.value x,args:=#[y],argTypes:=ts }) (hx:evF F x=.func (.func f) #[u] #[]) (hy:evF F y=la) (he:∀ args w,(callFunc f args).run P w=.ok (.enter f args) w) (w:World):(execOp (evF F) o).run P w=.ok (.enter f #[u,la]) w:=by
 unfold execOp
 simp [ho,resolve,Deferred.ofValue,hx,hy,invoke,he,go_sem]
end
def fnOf (c:UInt8):FuncId:=if c.toNat≤64 then 243 else match c.toNat with
 | 96=>244
 | 97=>245
 | 98=>246
 | 99=>247
 | 100=>248
 | 101=>249
 | 102=>250
 | 103=>251
 | 104=>252
 | 105=>253
 | 106=>254
 | 107=>255
 | _=>256
theorem fnOf_enters (c:UInt8):∀ (args:Array Value) (w:World),(callFunc (fnOf c) args).run Tryz.prog w=.ok (.enter (fnOf c) args) w:=by
 unfold fnOf
 split
 ·exact enters_of Tryz.func243 kR rfl
 ·split
  ·exact enters_of Tryz.func244 kR rfl
  ·exact enters_of Tryz.func245 kR rfl
  ·exact enters_of Tryz.func246 kR rfl
  ·exact enters_of Tryz.func247 kR rfl
  ·exact enters_of Tryz.func248 kR rfl
  ·exact enters_of Tryz.func249 kR rfl
  ·exact enters_of Tryz.func250 kR rfl
  ·exact enters_of Tryz.func251 kR rfl
  ·exact enters_of Tryz.func252 kR rfl
  ·exact enters_of Tryz.func253 kR rfl
  ·exact enters_of Tryz.func254 kR rfl
  ·exact enters_of Tryz.func255 kR rfl
  ·exact enters_of Tryz.func256 kR rfl
theorem choose_any (w0:Base) (g:Nat) (s:Slc) (m:Byt) (hm:m.length=32) (h k:Nat) (r:Value) (T:Blocks) (x:Opn) (hok:okO x) (hr:BytR (rdC w0 T) r x.2) (w:World) (hw:St w0 w (MS g s m h r k T)):Calls Tryz.prog 207 #[ptr g,bv x.1] w (Turns w0 (λv M=>v=.tuple #[.int .i64 ((needs x:Nat):Int),.func (.func (fnOf x.1)) #[ptr g] #[]]∧M=MS g s m h r k T)):=by
 have hc:=x.1.toNat_lt
 refine Sy.enterT (args:=[ptr g,bv x.1]) hw Tryz.func207 rfl kL ?_
 refine sC ?_
 refine sP (.int .i64 0)<|sP .nilFunc ?_
 refine sG<|Sy.seq<|Sy.block<|sC ?_
 obtain ⟨b0,hb0⟩:∃ t_:Bool,t_=decide (x.1.toNat≤64):=⟨_,rfl⟩
 refine sp rfl<|sS (.bool b0) (Quiet.pure (exec_int .leq _ _ _ .u8 _ _ _ rfl rfl rfl (int_leq _ _ _ _ _ (by rw [hb0]; exact decide_eq_decide.2 (by omega)))))<|sp rfl ?_
 refine sG ?_
 cases b0
 case' true =>
  have l0:x.1.toNat≤64:=of_decide_eq_true hb0.symm
  refine sT<|sC ?_
  refine sp rfl<|sP (.func (.func 243) #[ptr g] #[])<|sP (.int .i64 0)<|sp rfl ?_
  refine sG<|Sy.ret<|Sy.in_ret<|Sy.then_ret ?_
  have e1:needs x=0:=by unfold needs; rw [if_pos l0]
  have e2:fnOf x.1=243:=by unfold fnOf; rw [if_pos l0]
  exact Sy.retT2 _ rfl (.inl (show _=some (.int .i64 ((0:Nat):Int)) by kernel_rfl)) (.inl (show _=some (.func (.func 243) #[ptr g] #[]) by kernel_rfl)) (λ_ h=>h) ⟨by rw [e1,e2],rfl⟩
 have l0:¬ x.1.toNat≤64:=of_decide_eq_false hb0.symm
 refine sU<|sC ?_
 obtain ⟨b1,hb1⟩:∃ t_:Bool,t_=decide (x.1.toNat=96):=⟨_,rfl⟩
 refine sp rfl<|sS (.bool b1) (Quiet.pure (exec_int .eql _ _ _ .u8 _ _ _ rfl rfl rfl (int_eql _ _ _ _ _ (by rw [hb1]; exact decide_eq_decide.2 (by omega)))))<|sp rfl ?_
 refine sG ?_
 cases b1
 case' true =>
  have l1:x.1.toNat=96:=of_decide_eq_true hb1.symm
  refine sT<|sC ?_
  refine sp rfl<|sP (.func (.func 244) #[ptr g] #[])<|sP (.int .i64 1)<|sp rfl ?_
  refine sG<|Sy.ret<|Sy.in_ret<|Sy.then_ret ?_
  have e1:needs x=1:=by unfold needs; rw [l1]; rfl
  have e2:fnOf x.1=244:=by unfold fnOf; rw [l1]; rfl
  exact Sy.retT2 _ rfl (.inl (show _=some (.int .i64 ((1:Nat):Int)) by kernel_rfl)) (.inl (show _=some (.func (.func 244) #[ptr g] #[]) by kernel_rfl)) (λ_ h=>h) ⟨by rw [e1,e2],rfl⟩
 have l1:¬ x.1.toNat=96:=of_decide_eq_false hb1.symm
 refine sU<|sC ?_
 obtain ⟨b2,hb2⟩:∃ t_:Bool,t_=decide (x.1.toNat=97):=⟨_,rfl⟩
 refine sp rfl<|sS (.bool b2) (Quiet.pure (exec_int .eql _ _ _ .u8 _ _ _ rfl rfl rfl (int_eql _ _ _ _ _ (by rw [hb2]; exact decide_eq_decide.2 (by omega)))))<|sp rfl ?_
 refine sG ?_
 cases b2
 case' true =>
  have l2:x.1.toNat=97:=of_decide_eq_true hb2.symm
  refine sT<|sC ?_
  refine sp rfl<|sP (.func (.func 245) #[ptr g] #[])<|sP (.int .i64 1)<|sp rfl ?_
  refine sG<|Sy.ret<|Sy.in_ret<|Sy.then_ret ?_
  have e1:needs x=1:=by unfold needs; rw [l2]; rfl
  have e2:fnOf x.1=245:=by unfold fnOf; rw [l2]; rfl
  exact Sy.retT2 _ rfl (.inl (show _=some (.int .i64 ((1:Nat):Int)) by kernel_rfl)) (.inl (show _=some (.func (.func 245) #[ptr g] #[]) by kernel_rfl)) (λ_ h=>h) ⟨by rw [e1,e2],rfl⟩
 have l2:¬ x.1.toNat=97:=of_decide_eq_false hb2.symm
 refine sU<|sC ?_
 obtain ⟨b3,hb3⟩:∃ t_:Bool,t_=decide (x.1.toNat=98):=⟨_,rfl⟩
 refine sp rfl<|sS (.bool b3) (Quiet.pure (exec_int .eql _ _ _ .u8 _ _ _ rfl rfl rfl (int_eql _ _ _ _ _ (by rw [hb3]; exact decide_eq_decide.2 (by omega)))))<|sp rfl ?_
 refine sG ?_
 cases b3
 case' true =>
  have l3:x.1.toNat=98:=of_decide_eq_true hb3.symm
  refine sT<|sC ?_
  refine sp rfl<|sP (.func (.func 246) #[ptr g] #[])<|sP (.int .i64 2)<|sp rfl ?_
  refine sG<|Sy.ret<|Sy.in_ret<|Sy.then_ret ?_
  have e1:needs x=2:=by unfold needs; rw [l3]; rfl
  have e2:fnOf x.1=246:=by unfold fnOf; rw [l3]; rfl
  exact Sy.retT2 _ rfl (.inl (show _=some (.int .i64 ((2:Nat):Int)) by kernel_rfl)) (.inl (show _=some (.func (.func 246) #[ptr g] #[]) by kernel_rfl)) (λ_ h=>h) ⟨by rw [e1,e2],rfl⟩
 have l3:¬ x.1.toNat=98:=of_decide_eq_false hb3.symm
 refine sU<|sC ?_
 obtain ⟨b4,hb4⟩:∃ t_:Bool,t_=decide (x.1.toNat=99):=⟨_,rfl⟩
 refine sp rfl<|sS (.bool b4) (Quiet.pure (exec_int .eql _ _ _ .u8 _ _ _ rfl rfl rfl (int_eql _ _ _ _ _ (by rw [hb4]; exact decide_eq_decide.2 (by omega)))))<|sp rfl ?_
 refine sG ?_
 cases b4
 case' true =>
  have l4:x.1.toNat=99:=of_decide_eq_true hb4.symm
  refine sT<|sC ?_
  refine sp rfl<|sP (.func (.func 247) #[ptr g] #[])<|sP (.int .i64 1)<|sp rfl ?_
  refine sG<|Sy.ret<|Sy.in_ret<|Sy.then_ret ?_
  have e1:needs x=1:=by unfold needs; rw [l4]; rfl
  have e2:fnOf x.1=247:=by unfold fnOf; rw [l4]; rfl
  exact Sy.retT2 _ rfl (.inl (show _=some (.int .i64 ((1:Nat):Int)) by kernel_rfl)) (.inl (show _=some (.func (.func 247) #[ptr g] #[]) by kernel_rfl)) (λ_ h=>h) ⟨by rw [e1,e2],rfl⟩
 have l4:¬ x.1.toNat=99:=of_decide_eq_false hb4.symm
 refine sU<|sC ?_
 obtain ⟨b5,hb5⟩:∃ t_:Bool,t_=decide (x.1.toNat=100):=⟨_,rfl⟩
 refine sp rfl<|sS (.bool b5) (Quiet.pure (exec_int .eql _ _ _ .u8 _ _ _ rfl rfl rfl (int_eql _ _ _ _ _ (by rw [hb5]; exact decide_eq_decide.2 (by omega)))))<|sp rfl ?_
 refine sG ?_
 cases b5
 case' true =>
  have l5:x.1.toNat=100:=of_decide_eq_true hb5.symm
  refine sT<|sC ?_
  refine sp rfl<|sP (.func (.func 248) #[ptr g] #[])<|sP (.int .i64 1)<|sp rfl ?_
  refine sG<|Sy.ret<|Sy.in_ret<|Sy.then_ret ?_
  have e1:needs x=1:=by unfold needs; rw [l5]; rfl
  have e2:fnOf x.1=248:=by unfold fnOf; rw [l5]; rfl
  exact Sy.retT2 _ rfl (.inl (show _=some (.int .i64 ((1:Nat):Int)) by kernel_rfl)) (.inl (show _=some (.func (.func 248) #[ptr g] #[]) by kernel_rfl)) (λ_ h=>h) ⟨by rw [e1,e2],rfl⟩
 have l5:¬ x.1.toNat=100:=of_decide_eq_false hb5.symm
 refine sU<|sC ?_
 obtain ⟨b6,hb6⟩:∃ t_:Bool,t_=decide (x.1.toNat=101):=⟨_,rfl⟩
 refine sp rfl<|sS (.bool b6) (Quiet.pure (exec_int .eql _ _ _ .u8 _ _ _ rfl rfl rfl (int_eql _ _ _ _ _ (by rw [hb6]; exact decide_eq_decide.2 (by omega)))))<|sp rfl ?_
 refine sG ?_
 cases b6
 case' true =>
  have l6:x.1.toNat=101:=of_decide_eq_true hb6.symm
  refine sT<|sC ?_
  refine sp rfl<|sP (.func (.func 249) #[ptr g] #[])<|sP (.int .i64 2)<|sp rfl ?_
  refine sG<|Sy.ret<|Sy.in_ret<|Sy.then_ret ?_
  have e1:needs x=2:=by unfold needs; rw [l6]; rfl
  have e2:fnOf x.1=249:=by unfold fnOf; rw [l6]; rfl
  exact Sy.retT2 _ rfl (.inl (show _=some (.int .i64 ((2:Nat):Int)) by kernel_rfl)) (.inl (show _=some (.func (.func 249) #[ptr g] #[]) by kernel_rfl)) (λ_ h=>h) ⟨by rw [e1,e2],rfl⟩
 have l6:¬ x.1.toNat=101:=of_decide_eq_false hb6.symm
 refine sU<|sC ?_
 obtain ⟨b7,hb7⟩:∃ t_:Bool,t_=decide (x.1.toNat=102):=⟨_,rfl⟩
 refine sp rfl<|sS (.bool b7) (Quiet.pure (exec_int .eql _ _ _ .u8 _ _ _ rfl rfl rfl (int_eql _ _ _ _ _ (by rw [hb7]; exact decide_eq_decide.2 (by omega)))))<|sp rfl ?_
 refine sG ?_
 cases b7
 case' true =>
  have l7:x.1.toNat=102:=of_decide_eq_true hb7.symm
  refine sT<|sC ?_
  refine sp rfl<|sP (.func (.func 250) #[ptr g] #[])<|sP (.int .i64 1)<|sp rfl ?_
  refine sG<|Sy.ret<|Sy.in_ret<|Sy.then_ret ?_
  have e1:needs x=1:=by unfold needs; rw [l7]; rfl
  have e2:fnOf x.1=250:=by unfold fnOf; rw [l7]; rfl
  exact Sy.retT2 _ rfl (.inl (show _=some (.int .i64 ((1:Nat):Int)) by kernel_rfl)) (.inl (show _=some (.func (.func 250) #[ptr g] #[]) by kernel_rfl)) (λ_ h=>h) ⟨by rw [e1,e2],rfl⟩
 have l7:¬ x.1.toNat=102:=of_decide_eq_false hb7.symm
 refine sU<|sC ?_
 obtain ⟨b8,hb8⟩:∃ t_:Bool,t_=decide (x.1.toNat=103):=⟨_,rfl⟩
 refine sp rfl<|sS (.bool b8) (Quiet.pure (exec_int .eql _ _ _ .u8 _ _ _ rfl rfl rfl (int_eql _ _ _ _ _ (by rw [hb8]; exact decide_eq_decide.2 (by omega)))))<|sp rfl ?_
 refine sG ?_
 cases b8
 case' true =>
  have l8:x.1.toNat=103:=of_decide_eq_true hb8.symm
  refine sT<|sC ?_
  refine sp rfl<|sP (.func (.func 251) #[ptr g] #[])<|sP (.int .i64 2)<|sp rfl ?_
  refine sG<|Sy.ret<|Sy.in_ret<|Sy.then_ret ?_
  have e1:needs x=2:=by unfold needs; rw [l8]; rfl
  have e2:fnOf x.1=251:=by unfold fnOf; rw [l8]; rfl
  exact Sy.retT2 _ rfl (.inl (show _=some (.int .i64 ((2:Nat):Int)) by kernel_rfl)) (.inl (show _=some (.func (.func 251) #[ptr g] #[]) by kernel_rfl)) (λ_ h=>h) ⟨by rw [e1,e2],rfl⟩
 have l8:¬ x.1.toNat=103:=of_decide_eq_false hb8.symm
 refine sU<|sC ?_
 obtain ⟨b9,hb9⟩:∃ t_:Bool,t_=decide (x.1.toNat=104):=⟨_,rfl⟩
 refine sp rfl<|sS (.bool b9) (Quiet.pure (exec_int .eql _ _ _ .u8 _ _ _ rfl rfl rfl (int_eql _ _ _ _ _ (by rw [hb9]; exact decide_eq_decide.2 (by omega)))))<|sp rfl ?_
 refine sG ?_
 cases b9
 case' true =>
  have l9:x.1.toNat=104:=of_decide_eq_true hb9.symm
  refine sT<|sC ?_
  have hl2:x.2.length=2:=by
   have h1:okO x:=hok
   unfold okO follow at h1
   rw [if_neg l0,if_pos l9] at h1
   exact (Option.some.inj h1).symm
  obtain ⟨rA,rn,rc,rfl,r2,r3,r4,r5⟩:=hr
  obtain ⟨go,oo,rfl,rq⟩:=r5 (by intro e; rw [e] at hl2; cases hl2)
  obtain ⟨u0,u1,hu⟩:=len2 hl2
  have hu1:x.2[1]? = some u1:=by rw [hu]; rfl
  have hc1:=u1.toNat_lt
  refine sp rfl<|sp rfl<|sP (.pointer (some ⟨g,34,Option.none⟩))<|sS (.slice (some ⟨go,oo,Option.none⟩) rn rc) (Quiet.cell 0 g 34 190 29 _ _ _ rfl kR rfl Tryz.underlying29 rfl _ (mcs_r hm))<|sS (.pointer (some ⟨go,oo+1*1,Option.none⟩)) (Quiet.pure (exec_at 29 5 _ _ go oo rn rc 1 1 .i64 rfl rfl rfl Tryz.underlying29 kF (by omega)))<|sS (bv u1) (cellC (R:=T) (rq 1 u1 hu1) (λb hb=>List.mem_append_right _ (List.mem_append_right _ hb)) rfl Tryz.underlying5)<|sS (.int .i64 ((u1.toNat:Nat):Int)) (Quiet.pure (λw=>conv_8i w _ _ _ u1 rfl rfl))<|sS (.int .i64 ((2*u1.toNat:Nat):Int)) (Quiet.pure (exec_int .mul _ _ _ .i64 _ _ _ rfl rfl rfl (int_mul _ _ _ _ _ ((wrap_i64 (by omega) (by omega)).trans (by omega)))))<|sp rfl<|sP (.func (.func 252) #[ptr g] #[])<|sp rfl<|sp rfl ?_
  refine sG<|Sy.ret<|Sy.in_ret<|Sy.then_ret ?_
  have e1:needs x=2*u1.toNat:=by unfold needs; rw [l9,hu]; rfl
  have e2:fnOf x.1=252:=by unfold fnOf; rw [l9]; rfl
  exact Sy.retT2 _ rfl (.inl (show _=some (.int .i64 ((2*u1.toNat:Nat):Int)) by kernel_rfl)) (.inl (show _=some (.func (.func 252) #[ptr g] #[]) by kernel_rfl)) (λ_ h=>h) ⟨by rw [e1,e2],rfl⟩
 have l9:¬ x.1.toNat=104:=of_decide_eq_false hb9.symm
 refine sU<|sC ?_
 obtain ⟨b10,hb10⟩:∃ t_:Bool,t_=decide (x.1.toNat=105):=⟨_,rfl⟩
 refine sp rfl<|sS (.bool b10) (Quiet.pure (exec_int .eql _ _ _ .u8 _ _ _ rfl rfl rfl (int_eql _ _ _ _ _ (by rw [hb10]; exact decide_eq_decide.2 (by omega)))))<|sp rfl ?_
 refine sG ?_
 cases b10
 case' true =>
  have l10:x.1.toNat=105:=of_decide_eq_true hb10.symm
  refine sT<|sC ?_
  refine sp rfl<|sP (.func (.func 253) #[ptr g] #[])<|sP (.int .i64 1)<|sp rfl ?_
  refine sG<|Sy.ret<|Sy.in_ret<|Sy.then_ret ?_
  have e1:needs x=1:=by unfold needs; rw [l10]; rfl
  have e2:fnOf x.1=253:=by unfold fnOf; rw [l10]; rfl
  exact Sy.retT2 _ rfl (.inl (show _=some (.int .i64 ((1:Nat):Int)) by kernel_rfl)) (.inl (show _=some (.func (.func 253) #[ptr g] #[]) by kernel_rfl)) (λ_ h=>h) ⟨by rw [e1,e2],rfl⟩
 have l10:¬ x.1.toNat=105:=of_decide_eq_false hb10.symm
 refine sU<|sC ?_
 obtain ⟨b11,hb11⟩:∃ t_:Bool,t_=decide (x.1.toNat=106):=⟨_,rfl⟩
 refine sp rfl<|sS (.bool b11) (Quiet.pure (exec_int .eql _ _ _ .u8 _ _ _ rfl rfl rfl (int_eql _ _ _ _ _ (by rw [hb11]; exact decide_eq_decide.2 (by omega)))))<|sp rfl ?_
 refine sG ?_
 cases b11
 case' true =>
  have l11:x.1.toNat=106:=of_decide_eq_true hb11.symm
  refine sT<|sC ?_
  refine sp rfl<|sP (.func (.func 254) #[ptr g] #[])<|sP (.int .i64 1)<|sp rfl ?_
  refine sG<|Sy.ret<|Sy.in_ret<|Sy.then_ret ?_
  have e1:needs x=1:=by unfold needs; rw [l11]; rfl
  have e2:fnOf x.1=254:=by unfold fnOf; rw [l11]; rfl
  exact Sy.retT2 _ rfl (.inl (show _=some (.int .i64 ((1:Nat):Int)) by kernel_rfl)) (.inl (show _=some (.func (.func 254) #[ptr g] #[]) by kernel_rfl)) (λ_ h=>h) ⟨by rw [e1,e2],rfl⟩
 have l11:¬ x.1.toNat=106:=of_decide_eq_false hb11.symm
 refine sU<|sC ?_
 obtain ⟨b12,hb12⟩:∃ t_:Bool,t_=decide (x.1.toNat=107):=⟨_,rfl⟩
 refine sp rfl<|sS (.bool b12) (Quiet.pure (exec_int .eql _ _ _ .u8 _ _ _ rfl rfl rfl (int_eql _ _ _ _ _ (by rw [hb12]; exact decide_eq_decide.2 (by omega)))))<|sp rfl ?_
 refine sG ?_
 cases b12
 case' true =>
  have l12:x.1.toNat=107:=of_decide_eq_true hb12.symm
  refine sT<|sC ?_
  refine sp rfl<|sP (.func (.func 255) #[ptr g] #[])<|sP (.int .i64 0)<|sp rfl ?_
  refine sG<|Sy.ret<|Sy.in_ret<|Sy.then_ret ?_
  have e1:needs x=0:=by unfold needs; rw [l12]; rfl
  have e2:fnOf x.1=255:=by unfold fnOf; rw [l12]; rfl
  exact Sy.retT2 _ rfl (.inl (show _=some (.int .i64 ((0:Nat):Int)) by kernel_rfl)) (.inl (show _=some (.func (.func 255) #[ptr g] #[]) by kernel_rfl)) (λ_ h=>h) ⟨by rw [e1,e2],rfl⟩
 have l12:¬ x.1.toNat=107:=of_decide_eq_false hb12.symm
 refine sU ?_
 have l13:x.1.toNat=108:=by
  have h1:okO x:=hok
  unfold okO follow at h1
  rw [if_neg l0,if_neg l9] at h1
  split at h1
  ·omega
  ·cases h1
 refine Sy.skip<|Sy.in_<|Sy.then_<|sC ?_
 refine sp rfl<|sP (.func (.func 256) #[ptr g] #[])<|sP (.int .i64 0)<|sp rfl ?_
 refine sG<|Sy.ret ?_
 have e1:needs x=0:=by unfold needs; rw [l13]; rfl
 have e2:fnOf x.1=256:=by unfold fnOf; rw [l13]; rfl
 exact Sy.retT2 _ rfl (.inl (show _=some (.int .i64 ((0:Nat):Int)) by kernel_rfl)) (.inl (show _=some (.func (.func 256) #[ptr g] #[]) by kernel_rfl)) (λ_ h=>h) ⟨by rw [e1,e2],rfl⟩
end Pg
end
section
namespace Pg
open Go.RowKit Sy
set_option maxRecDepth 100000
set_option maxHeartbeats 4000000
open Wr
noncomputable def infSl:TypeInfo:=(Tryz.prog.info? 29).getD default
theorem info_sl:Tryz.prog.info? 29=some infSl:=by kernel_rfl
def stE (E:Env) (x:Opn) (st:List Byt):Nat :=
 if st.length<needs x then 132
 else if (does E x (st.drop (st.length - needs x))).1≠0 then (does E x (st.drop (st.length - needs x))).1
 else if 32<(st.take (st.length - needs x)++(does E x (st.drop (st.length - needs x))).2).length then 132 else 0
def stS (E:Env) (x:Opn) (st:List Byt):List Byt:=st.take (st.length - needs x)++(does E x (st.drop (st.length - needs x))).2
def stK (x:Opn) (st:List Byt):Nat:=skp x (st.drop (st.length - needs x))
theorem exec_go (E:Env) (x:Opn) (os:List Opn) (st:List Byt):exec E (x::os) st 0=if stE E x st≠0 then stE E x st else exec E os (stS E x st) (stK x st):=by
 have e:exec E (x::os) st 0=if st.length<needs x then 132
  else if (does E x (st.drop (st.length - needs x))).1≠0 then (does E x (st.drop (st.length - needs x))).1
  else if 32<(st.take (st.length - needs x)++(does E x (st.drop (st.length - needs x))).2).length then 132
  else exec E os (st.take (st.length - needs x)++(does E x (st.drop (st.length - needs x))).2) (skp x (st.drop (st.length - needs x))):=by
  conv=>lhs; unfold exec
  rw [if_neg (Nat.lt_irrefl 0)]
 rw [e]
 unfold stE stS stK
 by_cases h1:st.length<needs x
 ·rw [if_pos h1,if_pos h1,if_pos (by decide)]
 ·rw [if_neg h1,if_neg h1]
  by_cases h2:(does E x (st.drop (st.length - needs x))).1≠0
  ·rw [if_pos h2,if_pos h2,if_pos h2]
  ·rw [if_neg h2,if_neg h2]
   by_cases h3:32<(st.take (st.length - needs x)++(does E x (st.drop (st.length - needs x))).2).length
   ·rw [if_pos h3,if_pos h3,if_pos (by decide)]
   ·rw [if_neg h3,if_neg h3,if_neg (by decide)]
theorem does_len (E:Env) (x:Opn) (l:List Byt):(does E x l).2.length≤2:=by
 unfold does
 dsimp only
 split <;> (try split) <;> simp
theorem does_err (E:Env) (x:Opn) (l:List Byt):(does E x l).1≤136:=by
 unfold does
 dsimp only
 split <;> (try split) <;> simp
def SpR (E:Env) (x:Opn) (w0:Base) (g:Nat) (m:Byt) (T:Blocks) (st:List Byt) (v:Value) (M:Blocks):Prop :=
 ∃ s' r' k' N zs',v=.int .i64 ((stE E x st:Nat):Int)∧M=MS g s' m E.h r' k' (T++N)∧(stE E x st=0→k'=stK x st∧StkY (rdC w0 (T++N)) s' zs'∧zs'.map (·.2)=stS E x st)
theorem step_any {Tb:World→Prop} (E:Env) (m:Byt) (hm:m.length=32) (x:Opn) (hok:okO x) (hE:EfC Tb E m x (fnOf x.1)) (hh:E.h<18446744073709551616) (w0:Base) (hT:Tb w0.world) (g:Nat) (s:Slc) (r0 vr:Value) (T:Blocks) (zs:List (Value×Byt)) (hs:StkY (rdC w0 T) s zs) (hz:zs.length≤32) (hvr:BytR (rdC w0 T) vr x.2) (w:World) (hw:St w0 w (MS g s m E.h r0 0 T)) :
  Calls Tryz.prog 166 #[ptr g,.agg #[bv x.1,vr]] w (Turns w0 (SpR E x w0 g m T (zs.map (·.2)))):=by
 refine Sy.enterT (args:=[ptr g,.agg #[bv x.1,vr]]) hw Tryz.func166 rfl kL ?_
 have hn9:needs x≤512:=by
  unfold needs
  have:=(x.2.getD 1 0).toNat_lt
  repeat' split
  all_goals omega
 obtain ⟨vA,vn,vc,rfl,v2,v3,v4,v5⟩:=hvr
 have hvr:BytR (rdC w0 T) (.slice vA vn vc) x.2:=⟨_,_,_,rfl,v2,v3,v4,v5⟩
 obtain ⟨n,hn⟩:∃ n,n=zs.length:=⟨_,rfl⟩
 obtain ⟨st,hst⟩:∃ st,st=zs.map (·.2):=⟨_,rfl⟩
 have hsl:st.length=n:=by rw [hst,List.length_map,hn]
 rw [← hst]
 refine sC ?_
 refine sM 275 #[bv x.1,.slice vA vn vc] (λg3=>?_)
 obtain ⟨T1,hT1⟩:∃ T1,T1=T++[(g3,275,#[bv x.1,.slice vA vn vc])]:=⟨_,rfl⟩
 refine Sy.permS (M:=MS g s m E.h r0 0 T1) (by rw [hT1]; exact (Sy.flat_perm (ls:=[[(g,190,(mcs s.v m E.h r0 0).toArray)],s.bl,T,[(g3,275,#[bv x.1,.slice vA vn vc])]]) (ms:=[[(g,190,(mcs s.v m E.h r0 0).toArray)],s.bl,T,[(g3,275,#[bv x.1,.slice vA vn vc])]]) [0,1,2,3] kR rfl (by simp) (by simp))) ?_
 have hTT:∀ b∈T,b∈T1:=λb hb=>by rw [hT1]; exact List.mem_append_left _ hb
 have h3:(g3,275,#[bv x.1,.slice vA vn vc])∈T1:=by rw [hT1]; simp
 have hs1:=hs.le (rdC_le (w0:=w0) hTT)
 have hvr1:=hvr.le (rdC_le (w0:=w0) hTT)
 have c0:rdC w0 T1 g3 0 (bv x.1):=.inr ⟨_,_,h3,rfl⟩
 have c1:rdC w0 T1 g3 1 (.slice vA vn vc):=.inr ⟨_,_,h3,rfl⟩
 refine sP (.int .i64 0) ?_
 refine sA ?_
 refine sp rfl<|sP (.pointer (some ⟨g3,1,none⟩))<|sS (.slice vA vn vc) (cellC (R:=T1) c1 (λb hb=>List.mem_append_right _ (List.mem_append_right _ hb)) rfl Tryz.underlying29)<|sp rfl<|sP (.pointer (some ⟨g,34,none⟩))<|sw 0 rfl (mcs s.v m E.h (.slice vA vn vc) 0).toArray (Writes.one 34 29 (.slice vA vn vc) _ _ rfl kR kR kR rfl rfl (by rw [List.size_toArray,mcs_len hm]; decide) (mcs_setr hm _)) ?_
 refine Sy.permS (M:=MS g s m E.h (.slice vA vn vc) 0 T1) (List.Perm.of_eq rfl) ?_
 refine sA ?_
 refine sp rfl<|sP (.pointer (some ⟨g3,0,none⟩))<|sS (bv x.1) (cellC (R:=T1) c0 (λb hb=>List.mem_append_right _ (List.mem_append_right _ hb)) rfl Tryz.underlying5) ?_
 refine Sy.callT (λw hw=>choose_any w0.inn g s m hm E.h 0 (.slice vA vn vc) T1 x hok hvr1 w hw) (λv M hM=>?_)
 obtain ⟨rfl,rfl⟩:=hM
 refine sp rfl<|sp rfl<|sp rfl<|sp rfl<|sp rfl ?_
 refine sA ?_
 obtain ⟨k,hk⟩:∃ k,k=needs x:=⟨_,rfl⟩
 rw [← hk]
 obtain ⟨b1,hb1⟩:∃ z:Bool,z=decide (n<k):=⟨_,rfl⟩
 refine sp rfl<|sp rfl<|sP (.pointer (some ⟨g,0,none⟩))<|sS s.v (qc 0 0 rfl rfl Tryz.underlying66)<|sS (.int .i64 (n:Int)) (Quiet.lenR hs.row (by rw [List.length_map,hn]) _ Tryz.underlying66 rfl rfl)<|sp rfl ?_
 cases b1
 case' true =>
  have l1:n<k:=of_decide_eq_true hb1.symm
  refine sS (.int .i64 ((n:Int) - (k:Int))) (Quiet.pure (exec_int .sub _ _ _ .i64 _ _ _ rfl rfl rfl (int_sub _ _ _ _ _ (wrap_i64 (by omega) (by omega)))))<|sp rfl ?_
  refine sG<|Sy.seq<|sC ?_
  refine sp rfl<|sS (.bool true) (Quiet.pure (exec_int .lss _ _ _ .i64 _ _ _ rfl rfl rfl (int_lss _ _ _ _ _ (decide_eq_true (by omega))))) ?_
  refine sG<|sT<|sC ?_
  refine sP (.int .i64 132) ?_
  refine sG<|Sy.ret<|Sy.then_ret ?_
  have e1:stE E x st=132:=by unfold stE; rw [if_pos (by omega)]
  exact Sy.retT1 _ rfl (.inl (show _=some (.int .i64 132) by kernel_rfl)) (λ_ h=>h) ⟨s,_,0,[(g3,275,#[bv x.1,.slice vA vn vc])],zs,by rw [e1]; rfl,by rw [← hT1],λh=>by rw [e1] at h; cases h⟩
 have l1:¬ n<k:=of_decide_eq_false hb1.symm
 obtain ⟨j,hj⟩:∃ j,j=n - k:=⟨_,rfl⟩
 refine sS (.int .i64 ((j:Nat):Int)) (Quiet.pure (exec_int .sub _ _ _ .i64 _ _ _ rfl rfl rfl (int_sub _ _ _ _ _ ((wrap_i64 (by omega) (by omega)).trans (by omega)))))<|sp rfl ?_
 refine sG<|Sy.seq<|sC ?_
 refine sp rfl<|sS (.bool false) (Quiet.pure (exec_int .lss _ _ _ .i64 _ _ _ rfl rfl rfl (int_lss _ _ _ _ _ (decide_eq_false (by omega))))) ?_
 refine sG<|sU<|Sy.skip<|Sy.then_<|sC ?_
 obtain ⟨sA_,sc,sv_,sv2,sarg⟩:=Slc_arg hs1
 rw [← hn] at sv_
 have harg:=sarg j (by omega)
 rw [← hn] at harg
 refine sp rfl<|sp rfl<|sp rfl<|sP (.pointer (some ⟨g,0,none⟩))<|sS (.slice sA_ n sc) (by rw [← sv_]; exact qc 0 0 rfl rfl Tryz.underlying66)<|sp rfl<|sS (sliced sA_ j n sc 1) (Quiet.pure (exec_fromT 66 29 _ _ sA_ n sc j Tryz.underlying66 kF rfl rfl rfl (by omega))) ?_
 have hef:=hE w0.inn g s (.slice vA vn vc) T1 (sliced sA_ j n sc 1) (zs.drop j) hT hok (λz hz=>hs1.sm z (List.mem_of_mem_drop hz)) hvr1 (by rw [List.length_drop]; omega) harg
 have hmd:(zs.drop j).map (·.2)=st.drop j:=by rw [hst,List.map_drop]
 rw [hmd] at hef
 refine Sy.callT hef (λv M hM=>?_) (exec_callF rfl rfl rfl (fnOf_enters x.1))
 obtain ⟨y,N,ys,rfl,rfl,hy,hys⟩:=hM
 have hstd:st.drop (st.length - needs x)=st.drop j:=by rw [hsl, ← hk,hj]
 have hde:=does_err E x (st.drop j)
 obtain ⟨e,he⟩:∃ e,e=(does E x (st.drop j)).1:=⟨_,rfl⟩
 rw [← he] at hde ⊢
 obtain ⟨T2,hT2⟩:∃ T2,T2=y.bl++(T1++N):=⟨_,rfl⟩
 obtain ⟨N2,hN2⟩:∃ N2,N2=[(g3,275,#[bv x.1,.slice vA vn vc])]++(N++y.bl):=⟨_,rfl⟩
 have hp2:T2.Perm (T++N2):=by rw [hT2,hN2,hT1]; exact (Sy.flat_perm (ls:=[y.bl,T,[(g3,275,#[bv x.1,.slice vA vn vc])],N]) (ms:=[T,[(g3,275,#[bv x.1,.slice vA vn vc])],N,y.bl]) [1,2,3,0] kR rfl (by simp) (by simp))
 refine sp rfl<|sp rfl<|sp rfl<|sp rfl<|sp rfl ?_
 refine sG<|Sy.seq<|sC ?_
 obtain ⟨b2,hb2⟩:∃ t_:Bool,t_=decide (e≠0):=⟨_,rfl⟩
 refine sp rfl<|sS (.bool b2) (Quiet.pure (exec_int .neq _ _ _ .i64 _ _ _ rfl rfl rfl (int_neq _ _ _ _ _ (by rw [hb2]; exact decide_eq_decide.2 (by omega))))) ?_
 refine sG ?_
 cases b2
 case' true =>
  have l2:e≠0:=of_decide_eq_true hb2.symm
  refine sT<|sC ?_
  refine sp rfl<|sp rfl ?_
  refine sG<|Sy.ret<|Sy.then_ret ?_
  have e1:stE E x st=e:=by unfold stE; rw [if_neg (by omega),hstd, ← he,if_pos l2]
  exact Sy.retT1 (MS g s m E.h (.slice vA vn vc) (skp x (st.drop j)) (T++N2)) rfl (.inl (show _=some (.int .i64 ((e:Nat):Int)) by kernel_rfl)) (λ_ h=>h.perm (by rw [← hT2]; exact (hp2.append_left _).append_left _)) ⟨s,_,_,N2,zs,by rw [e1],rfl,λh=>by rw [e1] at h; exact absurd h l2⟩
 have l2:e=0:=by
  have:=of_decide_eq_false hb2.symm
  omega
 refine sU<|Sy.skip<|Sy.then_<|sC ?_
 have hyl:=does_len E x (st.drop j)
 rw [← hys,List.length_map] at hyl
 obtain ⟨y0,hy0,hyi,hyx⟩:=Slc_cut hs.row (j:=j) (by rw [List.length_map]; omega)
 obtain ⟨yA,yc,yv,yl,yf⟩:=Slc_from (w0:=w0.inn) (L:=[(g,190,(mcs s.v m E.h (.slice vA vn vc) (skp x (st.drop j))).toArray)]++(y.bl++(T1++N))) hy.row (λb hb=>List.mem_append_right _ (List.mem_append_left _ hb))
 rw [List.length_map] at yv yl
 refine sp rfl<|sp rfl<|sp rfl<|sP (.pointer (some ⟨g,0,none⟩))<|sS s.v (qc 0 0 rfl rfl Tryz.underlying66)<|sp rfl<|sS y0.v (Quiet.pure (hyx 66 _ _ Tryz.underlying66 kF rfl rfl rfl))<|sS (.slice yA ys.length yc) (by rw [← yv]; exact Quiet.pure (opV_run rfl)) ?_
 refine Sy.permS (M:=[(g,190,(mcs s.v m E.h (.slice vA vn vc) (skp x (st.drop j))).toArray)]++(y0.bl++(y.bl++(T1++N)))) (List.Perm.of_eq (by rw [hy0])) ?_
 refine Sy.appendM kR 66 29 _ _ 1 24 Tryz.underlying66 info_sl rfl rfl rfl rfl (by decide) _ _ rfl hyi kR hy.row.len hy.row.one yA ys.length yc (by rw [List.length_map]) yl kR (λr=>(Slc_from (w0:=w0.inn) hy.row (λb hb=>List.mem_append_right _ (List.mem_append_right _ (List.mem_append_left _ hb)))).elim λA' h=>h.elim λc' h=>by
  have e1:Value.slice yA ys.length yc=.slice A' (ys.map λz=>[z.1]).length c':=yv.symm.trans h.1
  injection e1 with e1 _ _
  rw [e1]; exact h.2.2) (by rw [List.length_take,List.length_map]; omega) (by rw [List.length_take,List.length_map]; simp only [maxLen]; omega) (λs2 hs2=>?_)
 refine sp rfl<|sP (.pointer (some ⟨g,0,none⟩))<|sw 0 rfl (mcs s2.v m E.h (.slice vA vn vc) (skp x (st.drop j))).toArray (Writes.one 0 66 s2.v _ _ rfl kR kR kR hs2.cells.1 hs2.cells.2 (by rw [List.size_toArray,mcs_len hm]; decide) rfl) ?_
 obtain ⟨zs2,hz2⟩:∃ zs2,zs2=zs.take j++ys:=⟨_,rfl⟩
 have hs2':s2.Is 29 1 (zs2.map λz=>[z.1]):=by
  rw [hz2,List.map_append,List.map_take]; exact hs2
 have hst2:zs2.map (·.2)=stS E x st:=by
  unfold stS
  rw [hstd, ← hys,hz2,List.map_append,List.map_take, ← hst,hsl, ← hk,hj]
 have hzl:zs2.length=(stS E x st).length:=by rw [← hst2,List.length_map]
 have hz3:zs2.length≤34:=by rw [hz2,List.length_append,List.length_take]; omega
 refine Sy.permS (M:=MS g s2 m E.h (.slice vA vn vc) (skp x (st.drop j)) (y.bl++(T1++N))) (List.Perm.of_eq rfl) ?_
 refine sG<|Sy.seq<|sC ?_
 obtain ⟨b3,hb3⟩:∃ t_:Bool,t_=decide (32<zs2.length):=⟨_,rfl⟩
 refine sp rfl<|sp rfl<|sP (.pointer (some ⟨g,0,none⟩))<|sS s2.v (qc 0 0 rfl rfl Tryz.underlying66)<|sS (.int .i64 ((zs2.length:Nat):Int)) (Quiet.lenR hs2' (by rw [List.length_map]) _ Tryz.underlying66 rfl rfl)<|sS (.bool b3) (Quiet.pure (exec_int .gtr _ _ _ .i64 _ _ _ rfl rfl rfl (int_gtr _ _ _ _ _ (by rw [hb3]; exact decide_eq_decide.2 (by omega))))) ?_
 refine sG ?_
 cases b3
 case' true =>
  have l3:32<zs2.length:=of_decide_eq_true hb3.symm
  refine sT<|sC ?_
  refine sP (.int .i64 132) ?_
  refine sG<|Sy.ret<|Sy.then_ret ?_
  have e1:stE E x st=132:=by
   have h9:32<(stS E x st).length:=by omega
   unfold stS at h9
   unfold stE; rw [if_neg (by omega),hstd, ← he,if_neg (by omega)]
   rw [hstd] at h9
   rw [if_pos h9]
  exact Sy.retT1 (MS g s2 m E.h (.slice vA vn vc) (skp x (st.drop j)) (T++N2)) rfl (.inl (show _=some (.int .i64 132) by kernel_rfl)) (λ_ h=>h.perm (by rw [← hT2]; exact (hp2.append_left _).append_left _)) ⟨s2,_,_,N2,zs,by rw [e1]; rfl,rfl,λh=>by rw [e1] at h; cases h⟩
 have l3:¬ 32<zs2.length:=of_decide_eq_false hb3.symm
 refine sU<|Sy.skip<|Sy.then_<|sC ?_
 refine sP (.int .i64 0) ?_
 refine sG<|Sy.ret ?_
 have e1:stE E x st=0:=by
  have h9:¬ 32<(stS E x st).length:=by omega
  unfold stS at h9
  unfold stE; rw [if_neg (by omega),hstd, ← he,if_neg (by omega)]
  rw [hstd] at h9
  rw [if_neg h9]
 have hle:∀ b∈T1++N,b∈T++N2:=λb hb=>hp2.subset (by rw [hT2]; exact List.mem_append_right _ hb)
 exact Sy.retT1 (MS g s2 m E.h (.slice vA vn vc) (skp x (st.drop j)) (T++N2)) rfl (.inl (show _=some (.int .i64 0) by kernel_rfl)) (λ_ h=>h.perm (by rw [← hT2]; exact (hp2.append_left _).append_left _)) ⟨s2,_,_,N2,zs2,by rw [e1]; rfl,rfl,λ_=>⟨by unfold stK; rw [hstd],⟨hs2',λz hz=>by
  rw [hz2] at hz
  rcases List.mem_append.1 hz with hz | hz
  ·exact (hs1.byt z (List.mem_of_mem_take hz)).le (rdC_le (λb hb=>hle b (List.mem_append_left _ hb)))
  ·exact (hy.byt z hz).le (rdC_le hle),λz hz=>by
  rw [hz2] at hz
  rcases List.mem_append.1 hz with hz | hz
  ·exact hs1.sm z (List.mem_of_mem_take hz)
  ·exact hy.sm z hz⟩,hst2⟩⟩
end Pg
end
section
namespace Pg
open Go.RowKit Sy
set_option maxRecDepth 100000
set_option maxHeartbeats 4000000
open Wr
theorem skip_any (w0:Base) (g:Nat) (s:Slc) (m:Byt) (hm:m.length=32) (h k:Nat) (hk0:0<k) (hk1:k≤100000) (r:Value) (T:Blocks) (c:UInt8) (w:World) (hw:St w0 w (MS g s m h r k T)):Calls Tryz.prog 165 #[ptr g,bv c] w (Turns w0 (λ_ M=>M=MS g s m h r (pas c k) T)):=by
 have hc:=c.toNat_lt
 refine Sy.enterT (args:=[ptr g,bv c]) hw Tryz.func165 rfl kL ?_
 refine Sy.block<|sC ?_
 obtain ⟨b1,hb1⟩:∃ t_:Bool,t_=decide (c.toNat=106):=⟨_,rfl⟩
 refine sp rfl<|sS (.bool b1) (Quiet.pure (exec_int .eql _ _ _ .u8 _ _ _ rfl rfl rfl (int_eql _ _ _ _ _ (by rw [hb1]; exact decide_eq_decide.2 (by omega)))))<|sp rfl ?_
 refine sG ?_
 cases b1
 case' true =>
  have l1:c.toNat=106:=of_decide_eq_true hb1.symm
  refine sT<|Sy.region ?_
  refine sp rfl<|sp rfl<|sP (.pointer (some ⟨g,35,none⟩))<|sS (.int .i64 ((k:Nat):Int)) (Quiet.cell 0 g 35 190 3 _ _ _ rfl kR rfl Tryz.underlying3 rfl _ (mcs_k hm))<|sS (.int .i64 ((k+1:Nat):Int)) (Quiet.pure (exec_int .add _ _ _ .i64 _ _ _ rfl rfl rfl (int_add _ _ _ _ _ ((wrap_i64 (by omega) (by omega)).trans (by omega)))))<|sp rfl<|sP (.pointer (some ⟨g,35,none⟩))<|sw 0 rfl (mcs s.v m h r (k+1)).toArray (Writes.one 35 3 (.int .i64 ((k+1:Nat):Int)) _ _ rfl kR kR kR rfl rfl (by rw [List.size_toArray,mcs_len hm]; decide) (mcs_setk hm _)) ?_
  refine Sy.nil<|Sy.in_ ?_
  exact Sy.retT0 rfl (MS g s m h r (k+1) T) (λ_ h=>h) (λ_=>by unfold pas; rw [if_pos l1])
 have l1:¬ c.toNat=106:=of_decide_eq_false hb1.symm
 refine sU<|sC ?_
 obtain ⟨b2,hb2⟩:∃ t_:Bool,t_=decide (c.toNat=108):=⟨_,rfl⟩
 refine sp rfl<|sS (.bool b2) (Quiet.pure (exec_int .eql _ _ _ .u8 _ _ _ rfl rfl rfl (int_eql _ _ _ _ _ (by rw [hb2]; exact decide_eq_decide.2 (by omega)))))<|sp rfl ?_
 refine sG ?_
 cases b2
 case' true =>
  have l2:c.toNat=108:=of_decide_eq_true hb2.symm
  refine sT<|Sy.region ?_
  refine sp rfl<|sp rfl<|sP (.pointer (some ⟨g,35,none⟩))<|sS (.int .i64 ((k:Nat):Int)) (Quiet.cell 0 g 35 190 3 _ _ _ rfl kR rfl Tryz.underlying3 rfl _ (mcs_k hm))<|sS (.int .i64 ((k - 1:Nat):Int)) (Quiet.pure (exec_int .sub _ _ _ .i64 _ _ _ rfl rfl rfl (int_sub _ _ _ _ _ ((wrap_i64 (by omega) (by omega)).trans (by omega)))))<|sp rfl<|sP (.pointer (some ⟨g,35,none⟩))<|sw 0 rfl (mcs s.v m h r (k - 1)).toArray (Writes.one 35 3 (.int .i64 ((k - 1:Nat):Int)) _ _ rfl kR kR kR rfl rfl (by rw [List.size_toArray,mcs_len hm]; decide) (mcs_setk hm _)) ?_
  refine Sy.nil<|Sy.in_ ?_
  exact Sy.retT0 rfl (MS g s m h r (k - 1) T) (λ_ h=>h) (λ_=>by unfold pas; rw [if_neg l1,if_pos l2])
 have l2:¬ c.toNat=108:=of_decide_eq_false hb2.symm
 refine sU<|sC ?_
 obtain ⟨b3,hb3⟩:∃ t_:Bool,t_=decide (c.toNat=107):=⟨_,rfl⟩
 refine sp rfl<|sS (.bool b3) (Quiet.pure (exec_int .eql _ _ _ .u8 _ _ _ rfl rfl rfl (int_eql _ _ _ _ _ (by rw [hb3]; exact decide_eq_decide.2 (by omega)))))<|sp rfl ?_
 cases b3
 case' false =>
  have l3:¬ c.toNat=107:=of_decide_eq_false hb3.symm
  refine sN<|sN<|sN<|sN<|sN<|sP (.bool false)<|sp rfl ?_
  refine sG<|sU<|Sy.skip<|Sy.in_ ?_
  exact Sy.retT0 rfl (MS g s m h r k T) (λ_ h=>h) (λ_=>by unfold pas; rw [if_neg l1,if_neg l2,if_neg (λh=>l3 h.1)])
 have l3:c.toNat=107:=of_decide_eq_true hb3.symm
 obtain ⟨b4,hb4⟩:∃ t_:Bool,t_=decide (k=1):=⟨_,rfl⟩
 refine sp rfl<|sp rfl<|sP (.pointer (some ⟨g,35,none⟩))<|sS (.int .i64 ((k:Nat):Int)) (Quiet.cell 0 g 35 190 3 _ _ _ rfl kR rfl Tryz.underlying3 rfl _ (mcs_k hm))<|sS (.bool b4) (Quiet.pure (exec_int .eql _ _ _ .i64 _ _ _ rfl rfl rfl (int_eql _ _ _ _ _ (by rw [hb4]; exact decide_eq_decide.2 (by omega)))))<|sP (.bool b4)<|sp rfl ?_
 refine sG ?_
 cases b4
 case' false =>
  have l4:¬ k=1:=of_decide_eq_false hb4.symm
  refine sU<|Sy.skip<|Sy.in_ ?_
  exact Sy.retT0 rfl (MS g s m h r k T) (λ_ h=>h) (λ_=>by unfold pas; rw [if_neg l1,if_neg l2,if_neg (λh=>l4 h.2)])
 have l4:k=1:=of_decide_eq_true hb4.symm
 refine sT<|Sy.region ?_
 refine sp rfl<|sp rfl<|sP (.pointer (some ⟨g,35,none⟩))<|sw 0 rfl (mcs s.v m h r (0)).toArray (Writes.one 35 3 (.int .i64 ((0:Nat):Int)) _ _ rfl kR kR kR rfl rfl (by rw [List.size_toArray,mcs_len hm]; decide) (mcs_setk hm _)) ?_
 refine Sy.nil<|Sy.in_ ?_
 exact Sy.retT0 rfl (MS g s m h r 0 T) (λ_ h=>h) (λ_=>by unfold pas; rw [if_neg l1,if_neg l2,if_pos ⟨l3,l4⟩])
theorem opL_flat_at (xs:List (Value×Opn)) (rr:List Value) (i:Nat) (z:Value×Opn) (hz:xs[i]? = some z):(((opL xs).flatten++rr).drop (i*2)).take 2=[bv z.2.1,z.1]:=by
 refine flat_at' rr (λy hy=>?_) i _ ?_
 ·obtain ⟨u,_,rfl⟩:=List.mem_map.1 hy; rfl
 ·unfold opL; rw [List.getElem?_map,hz]; rfl
theorem OpsY.at {C:Rdr} {y:Slc} {xs:List (Value×Opn)} (h:OpsY C y xs):∃ A cp,y.v=.slice A xs.length cp∧cp≤maxLen∧∀ i z,xs[i]? = some z→∃ g,A=some ⟨g,0,none⟩∧XAt (rdB y.bl) g (0+i*2) [bv z.2.1,z.1]:=by
 rcases h.row.row with ⟨e1,e2⟩ | ⟨g,cap,rr,e2,h1,h2,h3⟩
 ·obtain rfl:xs=[]:=List.map_eq_nil_iff.1 e1
  exact ⟨none,0,by rw [e2]; rfl,Nat.zero_le _,λi z hz=>by cases hz⟩
 ·rw [opL_len] at h1 h2
  refine ⟨some ⟨g,0,none⟩,cap,by rw [e2,opL_len],h3,λi z hz=>⟨g,rfl,λj u hu=>⟨275,_,by rw [e2]; exact List.mem_singleton.2 rfl,?_⟩⟩⟩
  have q:=opL_flat_at xs rr i z hz
  rw [← q] at hu
  have hj:j<2:=by
   have:=(List.getElem?_eq_some_iff.1 hu).1
   rw [List.length_take] at this; omega
  rw [List.getElem?_take_of_lt hj,List.getElem?_drop] at hu
  rw [List.getElem?_toArray,Nat.zero_add]
  exact hu
structure RY where
 s:Slc
 r:Value
 k:Nat
 N:Blocks
 zs:List (Value×Byt)
structure RH (E:Env) (w0:Base) (T:Blocks) (os:List Opn) (q:Nat) (i:Nat) (z:RY):Prop where
 hs:StkY (rdC w0 (T++z.N)) z.s z.zs
 n1:z.zs.length≤32
 n2:z.k≤i
 e:q=exec E (os.drop i) (z.zs.map (·.2)) z.k
def RnR (g:Nat) (m:Byt) (h:Nat) (T:Blocks) (q:Nat) (v:Value) (M:Blocks):Prop:=∃ s' r' k' N,v=.int .i64 ((q:Nat):Int)∧M=MS g s' m h r' k' (T++N)
theorem exec_pas (E:Env) (x:Opn) (os:List Opn) (st:List Byt) (k:Nat) (h:0<k):exec E (x::os) st k=exec E os st (pas x.1 k):=by
 conv=>lhs; unfold exec
 rw [if_pos h]
theorem pas_le (c:UInt8) (k:Nat):pas c k≤k+1:=by
 unfold pas
 repeat' split
 all_goals omega
theorem stK_le (x:Opn) (st:List Byt):stK x st≤1:=by unfold stK skp; split <;> omega
theorem runs_any {Tb:World→Prop} (E:Env) (m:Byt) (hm:m.length=32) (hh:E.h<18446744073709551616) (w0:Base) (hT:Tb w0.world) (g:Nat) (s:Slc) (r:Value) (T:Blocks) (zs:List (Value×Byt)) (y:Slc) (xs:List (Value×Opn)) (hs:StkY (rdC w0 T) s zs) (hz:zs.length≤32) (hy:OpsY (rdC w0 T) y xs) (hyT:∀ b∈y.bl,b∈T) (hok:∀ z∈xs,okO z.2) (hE:∀ z∈xs,EfC Tb E m z.2 (fnOf z.2.1)) (hxl:xs.length≤256) (w:World) (hw:St w0 w (MS g s m E.h r 0 T)) :
  Calls Tryz.prog 102 #[ptr g,y.v] w (Turns w0 (RnR g m E.h T (exec E (xs.map (·.2)) (zs.map (·.2)) 0))):=by
 obtain ⟨A,cp,yv,ycp,yat⟩:=hy.at
 obtain ⟨n,hn⟩:∃ n,n=xs.length:=⟨_,rfl⟩
 obtain ⟨q0,hq0⟩:∃ q0,q0=exec E (xs.map (·.2)) (zs.map (·.2)) 0:=⟨_,rfl⟩
 rw [← hq0,yv, ← hn]
 refine Sy.enterT (args:=[ptr g,.slice A n cp]) hw Tryz.func102 rfl kL ?_
 refine sC ?_
 refine sP (.int .i64 0) ?_
 refine sG<|Sy.seq<|sC ?_
 refine sp rfl<|sP (.int .i64 (n:Int))<|sP (.int .i64 0) ?_
 refine sG<|Sy.block ?_
 refine Sy.loopT (Y:=RY) n (λi z=>[(0,ptr g),(8,.slice A n cp),(9,.int .i64 (n:Int)),(10,.int .i64 (i:Int))]) (λi z=>MS g z.s m E.h z.r z.k (T++z.N)) (RH E w0 T (xs.map (·.2)) q0) ⟨s,r,0,[],zs⟩ ⟨by rw [List.append_nil]; exact hs,hz,Nat.le_refl _,by rw [List.drop_zero]; exact hq0⟩ (all_cons kR (all_cons kR (all_cons kR (all_cons kR all_nil)))) (λw h=>by rw [List.append_nil]; exact h) (λi z hi hz=>?_)
 obtain ⟨s,r,k,N,zs⟩:=z
 obtain ⟨hs,n1,n2,he⟩:=hz
 dsimp only at hs n1 n2 he ⊢
 refine sC ?_
 obtain ⟨b2,hb2⟩:∃ t_:Bool,t_=decide (i<n):=⟨_,rfl⟩
 refine sS (.bool b2) (Quiet.pure (exec_int .lss _ _ _ .i64 _ _ _ rfl rfl rfl (int_lss _ _ _ _ _ (by rw [hb2]; exact decide_eq_decide.2 (by omega))))) ?_
 refine sG<|Sy.seq ?_
 cases b2
 case' false =>
  have l2:¬ i<n:=of_decide_eq_false hb2.symm
  obtain rfl:i=n:=by omega
  rw [List.drop_of_length_le (by rw [List.length_map]; omega)] at he
  refine sU<|Sy.exit<|Sy.then_exit<|Sy.then_exit<|Sy.in_exit<|Sy.then_<|Sy.seq<|sC ?_
  obtain ⟨b3,hb3⟩:∃ z:Bool,z=decide (zs.length≠1):=⟨_,rfl⟩
  refine sp rfl<|sp rfl<|sP (.pointer (some ⟨g,0,none⟩))<|sS s.v (qc 0 0 rfl rfl Tryz.underlying66)<|sS (.int .i64 ((zs.length:Nat):Int)) (Quiet.lenR hs.row (by rw [List.length_map]) _ Tryz.underlying66 rfl rfl)<|sS (.bool b3) (Quiet.pure (exec_int .neq _ _ _ .i64 _ _ _ rfl rfl rfl (int_neq _ _ _ _ _ (by rw [hb3]; exact decide_eq_decide.2 (by omega)))))<|sp rfl ?_
  cases b3
  case' true =>
   have l3:zs.length≠1:=of_decide_eq_true hb3.symm
   refine sN<|sN<|sN<|sN<|sN<|sN<|sN<|sN<|sP (.bool true) ?_
   refine sG<|sT<|sC ?_
   refine sP (.int .i64 133) ?_
   refine sG<|Sy.ret<|Sy.then_ret ?_
   have e:q0=133:=by rw [he]; unfold exec; rw [if_neg (by rw [List.length_map]; exact λh=>l3 h.1)]
   exact Sy.retT1 _ rfl (.inl (show _=some (.int .i64 133) by kernel_rfl)) (λ_ h=>h) ⟨s,r,k,N,by rw [e]; rfl,rfl⟩
  have l3:zs.length=1:=by
   have:=of_decide_eq_false hb3.symm
   omega
  obtain ⟨z,rfl⟩:=List.length_eq_one_iff.1 l3
  obtain ⟨sA_,sc,sv_,sv2,sarg⟩:=Slc_arg hs
  obtain ⟨A1,n9,c9,e9,a1,a2,a3,a4⟩:=sarg 0 (Nat.zero_le _)
  rcases hs.row.row with ⟨e1,_⟩ | ⟨gs,cap,rr,e2,h1,h2,h3⟩
  ·cases e1
  have hsb:rdC w0 (s.bl++(T++N)) gs (0+0*1) z.1:=.inr ⟨29,_,List.mem_append_left _ (by rw [e2]; exact List.mem_singleton.2 rfl),rfl⟩
  have d0:=hs.byt z (List.mem_singleton.2 rfl)
  obtain ⟨b4,hb4⟩:∃ b,b=tru z.2:=⟨_,rfl⟩
  refine sp rfl<|sp rfl<|sP (.pointer (some ⟨g,0,none⟩))<|sS (.slice (some ⟨gs,0,none⟩) 1 cap) (Quiet.cell 0 g 0 190 66 _ _ _ rfl kR rfl Tryz.underlying66 rfl _ (by rw [e2]; rfl))<|sS (.pointer (some ⟨gs,0+0*1,none⟩)) (Quiet.pure (exec_at 66 29 _ _ gs 0 1 cap 0 1 .i64 rfl rfl rfl Tryz.underlying66 kF (by omega)))<|sS z.1 (cellC (R:=s.bl++(T++N)) hsb (λb hb=>List.mem_append_right _ hb) rfl Tryz.underlying29)<|sS (.bool b4) (by rw [hb4]; exact qg (λw hw=>truth_any w z.1 z.2 (d0.le (rdC_world hw (λb hb=>List.mem_append_right _ (List.mem_append_right _ hb))))))<|sP (.bool (!b4))<|sP (.bool (!b4)) ?_
  refine sG ?_
  cases b4
  case' false =>
   refine sT<|sC ?_
   refine sP (.int .i64 133) ?_
   refine sG<|Sy.ret<|Sy.then_ret ?_
   have e:q0=133:=by
    rw [he]; unfold exec
    rw [if_neg]
    rintro ⟨_,h⟩
    have h':tru z.2=true:=h
    rw [← hb4] at h'; cases h'
   exact Sy.retT1 _ rfl (.inl (show _=some (.int .i64 133) by kernel_rfl)) (λ_ h=>h) ⟨s,r,k,N,by rw [e]; rfl,rfl⟩
  refine sU<|Sy.skip<|Sy.then_<|sC ?_
  refine sP (.int .i64 0) ?_
  refine sG<|Sy.ret ?_
  have e:q0=0:=by
   rw [he]; unfold exec
   rw [if_pos ⟨rfl,hb4.symm⟩]
  exact Sy.retT1 _ rfl (.inl (show _=some (.int .i64 0) by kernel_rfl)) (λ_ h=>h) ⟨s,r,k,N,by rw [e]; rfl,rfl⟩
 have l2:i<n:=of_decide_eq_true hb2.symm
 obtain ⟨⟨xv,x⟩,hx⟩:∃ z,xs[i]? = some z:=⟨_,List.getElem?_eq_getElem (by omega)⟩
 obtain ⟨ga,rfl,hxa⟩:=yat i _ hx
 dsimp only at hxa
 have hxm:=List.mem_of_getElem? hx
 have hxb:BytR (rdC w0 T) xv x.2:=hy.byt _ hxm
 obtain ⟨vA,vn,vc,rfl,v2,v3,v4,v5⟩:=hxb
 have hxb:BytR (rdC w0 T) (.slice vA vn vc) x.2:=⟨_,_,_,rfl,v2,v3,v4,v5⟩
 have hdr:(xs.map (·.2)).drop i=x::(xs.map (·.2)).drop (i+1):=by
  rw [List.drop_eq_getElem_cons (by rw [List.length_map]; omega)]
  congr 1
  have:=List.getElem?_eq_some_iff.1 hx
  obtain ⟨h1,h2⟩:=this
  rw [List.getElem_map,h2]
 rw [hdr] at he
 refine sT<|Sy.skip<|Sy.then_<|Sy.seq<|Sy.block<|sC ?_
 have mT:∀ b∈T,b∈MS g s m E.h r k (T++N):=λb hb=>List.mem_append_right _ (List.mem_append_right _ (List.mem_append_left _ hb))
 refine sS (.pointer (some ⟨ga,0+i*2,none⟩)) (Quiet.pure (exec_at 184 275 _ _ ga 0 n cp i 2 .i64 rfl rfl rfl Tryz.underlying184 kF l2))<|sS (.agg #[bv x.1,.slice vA vn vc]) (rowC (R:=T) (cs:=[bv x.1,.slice vA vn vc]) (λj u hu=>(rdC_le hyT _ _ _ (rdB_base _ _ _ (hxa j u hu)))) mT rfl rfl Tryz.underlying275) ?_
 refine sM 275 #[.int .u8 0,.slice none 0 0] (λg6=>?_)
 refine Sy.movT ?_
 refine sw 1 rfl #[bv x.1,.slice vA vn vc] (wA rfl) ?_
 refine Sy.setT ?_
 refine Sy.permS (M:=MS g s m E.h r k (T++(N++[(g6,275,#[bv x.1,.slice vA vn vc])]))) (Sy.flat_perm (ls:=[[(g,190,(mcs s.v m E.h r k).toArray)],[(g6,275,#[bv x.1,.slice vA vn vc])],s.bl,T,N]) (ms:=[[(g,190,(mcs s.v m E.h r k).toArray)],s.bl,T,N,[(g6,275,#[bv x.1,.slice vA vn vc])]]) [0,2,3,4,1] kR rfl (by simp) (by simp)) ?_
 obtain ⟨N1,hN1⟩:∃ N1,N1=N++[(g6,275,#[bv x.1,.slice vA vn vc])]:=⟨_,rfl⟩
 rw [← hN1]
 have h6:(g6,275,#[bv x.1,.slice vA vn vc])∈T++N1:=List.mem_append_right _ (by rw [hN1]; simp)
 have hNN:∀ b∈T++N,b∈T++N1:=λb hb=>by
  rcases List.mem_append.1 hb with hb | hb
  ·exact List.mem_append_left _ hb
  ·exact List.mem_append_right _ (by rw [hN1]; exact List.mem_append_left _ hb)
 have hs1:=hs.le (rdC_le (w0:=w0) hNN)
 have m1:∀ b∈T++N1,b∈MS g s m E.h r k (T++N1):=λb hb=>List.mem_append_right _ (List.mem_append_right _ hb)
 have c0:rdC w0 (T++N1) g6 0 (bv x.1):=.inr ⟨_,_,h6,rfl⟩
 have c01:XAt (rdC w0 (T++N1)) g6 0 [bv x.1,.slice vA vn vc]:=λj u hu=>.inr ⟨_,_,h6,by rw [Nat.zero_add,List.getElem?_toArray]; exact hu⟩
 refine sG<|sC ?_
 obtain ⟨b3,hb3⟩:∃ t_:Bool,t_=decide (0<k):=⟨_,rfl⟩
 refine sp rfl<|sp rfl<|sP (.pointer (some ⟨g,35,none⟩))<|sS (.int .i64 ((k:Nat):Int)) (Quiet.cell 0 g 35 190 3 _ _ _ rfl kR rfl Tryz.underlying3 rfl _ (mcs_k hm))<|sS (.bool b3) (Quiet.pure (exec_int .gtr _ _ _ .i64 _ _ _ rfl rfl rfl (int_gtr _ _ _ _ _ (by rw [hb3]; exact decide_eq_decide.2 (by omega))))) ?_
 refine sG ?_
 cases b3
 case' true =>
  have l3:0<k:=of_decide_eq_true hb3.symm
  refine sT<|Sy.region ?_
  refine sp rfl<|sP (.pointer (some ⟨g6,0,none⟩))<|sS (bv x.1) (cellC (R:=T++N1) c0 m1 rfl Tryz.underlying5) ?_
  refine Sy.callT (λw hw=>skip_any w0.inn g s m hm E.h k l3 (by omega) r (T++N1) x.1 w hw) (λv M hM=>?_)
  obtain rfl:=hM
  refine Sy.nil<|Sy.in_<|Sy.then_<|Sy.region ?_
  refine sS (.int .i64 ((i+1:Nat):Int)) (Quiet.pure (exec_int .add _ _ _ .i64 _ _ _ rfl rfl rfl (int_add _ _ _ _ _ ((wrap_i64 (by omega) (by omega)).trans (by omega)))))<|sp rfl ?_
  refine Sy.nil ?_
  exact Sy.againT ⟨s,r,pas x.1 k,N1,zs⟩ l2 ⟨hs1,n1,Nat.le_trans (pas_le _ _) (by omega),by rw [he,exec_pas _ _ _ _ _ l3]⟩ (all_cons kR (all_cons kR (all_cons kR (all_cons kR all_nil)))) (λw h=>h)
 have l3:¬ 0<k:=of_decide_eq_false hb3.symm
 obtain rfl:k=0:=by omega
 rw [exec_go] at he
 refine sU<|sC ?_
 refine sp rfl<|sS (.agg #[bv x.1,.slice vA vn vc]) (rowC (R:=T++N1) (cs:=[bv x.1,.slice vA vn vc]) c01 m1 rfl rfl Tryz.underlying275) ?_
 refine Sy.callT (λw hw=>step_any E m hm x (hok _ hxm) (hE _ hxm) hh w0.inn hT g s r (.slice vA vn vc) (T++N1) zs hs1 n1 (hxb.le (rdC_le (λb hb=>List.mem_append_left _ hb))) w hw) (λv M hM=>?_)
 obtain ⟨s2,r2,k2,N2,zs2,rfl,rfl,h0⟩:=hM
 obtain ⟨e,hee⟩:∃ e,e=stE E x (zs.map (·.2)):=⟨_,rfl⟩
 have hel:e≤136:=by
  rw [hee]; unfold stE
  have:=does_err E x (((zs.map (·.2)).drop ((zs.map (·.2)).length - needs x)))
  repeat' split
  all_goals omega
 rw [← hee] at h0 he ⊢
 refine sp rfl ?_
 refine sG<|sC ?_
 obtain ⟨b4,hb4⟩:∃ t_:Bool,t_=decide (e≠0):=⟨_,rfl⟩
 refine sp rfl<|sS (.bool b4) (Quiet.pure (exec_int .neq _ _ _ .i64 _ _ _ rfl rfl rfl (int_neq _ _ _ _ _ (by rw [hb4]; exact decide_eq_decide.2 (by omega))))) ?_
 refine sG ?_
 cases b4
 case' true =>
  have l4:e≠0:=of_decide_eq_true hb4.symm
  rw [if_pos l4] at he
  refine sT<|sC ?_
  refine sp rfl<|sp rfl ?_
  refine sG<|Sy.ret<|Sy.in_ret<|Sy.then_ret<|Sy.then_ret<|Sy.in_ret<|Sy.then_ret ?_
  exact Sy.retT1 _ rfl (.inl (show _=some (.int .i64 ((e:Nat):Int)) by kernel_rfl)) (λ_ h=>h) ⟨s2,r2,k2,N1++N2,by rw [he],by rw [List.append_assoc]⟩
 have l4:e=0:=by
  have:=of_decide_eq_false hb4.symm
  omega
 rw [if_neg (by omega)] at he
 obtain ⟨q1,q2,q3⟩:=h0 l4
 refine sU<|Sy.skip<|Sy.in_<|Sy.then_<|Sy.region ?_
 refine sS (.int .i64 ((i+1:Nat):Int)) (Quiet.pure (exec_int .add _ _ _ .i64 _ _ _ rfl rfl rfl (int_add _ _ _ _ _ ((wrap_i64 (by omega) (by omega)).trans (by omega)))))<|sp rfl ?_
 refine Sy.nil ?_
 have hz2:zs2.length≤32:=by
  have e1:zs2.length=(stS E x (zs.map (·.2))).length:=by rw [← q3,List.length_map]
  have e2:stE E x (zs.map (·.2))=0:=by rw [← hee]; exact l4
  unfold stE at e2
  rw [e1]; unfold stS
  split at e2
  ·cases e2
  ·split at e2
   ·rename_i h; exact absurd e2 h
   ·split at e2
    ·cases e2
    ·omega
 exact Sy.againT ⟨s2,r2,k2,N1++N2,zs2⟩ l2 ⟨by rw [← List.append_assoc]; exact q2,hz2,by rw [q1]; exact Nat.le_trans (stK_le _ _) (by omega),by rw [he,q3,q1]⟩ (all_cons kR (all_cons kR (all_cons kR (all_cons kR all_nil)))) (λw h=>by rw [← List.append_assoc]; exact h)
end Pg
end
section
namespace Pg
open Go.RowKit Sy
set_option maxRecDepth 100000
set_option maxHeartbeats 4000000
open Wr
theorem setAll_mid {A z v Z:List Value} {f:Nat} (hf:A.length=f) (hz:z.length=v.length):setAll (A++(z++Z)).toArray f v=(A++(v++Z)).toArray:=by
 subst hf
 rw [setAll_is _ _ _ (by simp [hz])]
 rw [List.take_left, ← List.drop_drop,List.drop_left, ← hz,List.drop_left]
theorem fill_nil {place:Nat→Option (Nat×Nat)} {cs:Array Value}:Instr.fill place cs []=some cs:=by unfold Instr.fill; rfl
theorem fill_at {place:Nat→Option (Nat×Nat)} {A B C c:List Value} {v:Value} {i n o:Nat} {rest:List (Nat×Value)} (hp:place i=some (o,n)) (hv:v.cells=c.toArray) (hA:A.length=o) (hB:B.length=n) (hc:c.length=n):Instr.fill place (A++(B++C)).toArray ((i,v)::rest)=Instr.fill place (A++(c++C)).toArray rest:=by
 conv=>lhs; unfold Instr.fill
 rw [hp]
 simp only [hv,List.size_toArray,hc,ne_eq,not_true_eq_false,decide_false,Bool.false_or]
 rw [if_neg (by simp only [List.length_append,hA,hB,decide_eq_true_eq]; omega)]
 have h1:c.toArray.zipIdx.foldl (λcs (x:Value×Nat)=>cs.setIfInBounds (o+x.2) x.1) (A++(B++C)).toArray=setAll (A++(B++C)).toArray (o+0) c:=by
  rw [← fold_all c o 0, ← Array.foldl_toList,Array.toList_zipIdx]
 rw [h1,Nat.add_zero,setAll_mid hA (hB.trans hc.symm)]
theorem run_boxR {P:Program} {F:Slots} {o:Oper} {t:TypeId} {x:Operand} {cs:List Value} {k:Nat} (ho:o.op=.box t x) (hx:evF F x=.agg cs.toArray) (hi:(P.info? t).map (·.size)=some k) (hl:cs.length=k) (w:World):(execOp (evF F) o).run P w=.ok (.value (ptr w.heap.size)) (w.alloc (.cells cs.toArray t)):=by
 unfold execOp
 simp only [ho,hx,Sem.run_bind,Instr.box]
 simp [newVar,newRow,Value.cells,ptr,Result.andThen]
theorem leafE {P:Program} {w0:Base} {n:Nat} {Q:Exit→Act→World→Prop} {F:Slots} {L:Blocks} {ops:Array Oper} {ex:Nat→Bool} {fuel:Nat} {listed:Array Bool} {T:Type} {FF:T→Slots} {LL:T→Blocks} {H:T→Prop} {li:Array Bool} (h:∀ x,H x→wpD P w0 n ops Q ex (FF x) (LL x) fuel li) (x:T) (hx:H x) (hl:listed=li) (hF:∀ p∈FF x,F.lookup p.1=some p.2) (p:L.Perm (LL x)):wpD P w0 n ops Q ex F L fuel listed:=λa w ha hw=>by
 subst hl
 exact h x hx a w (ha.all hF) (hw.perm p)
theorem fits1_any (w:World) (v:Value) (b:Byt) (hv:BytR (rdW w) v b):Calls Tryz.prog 164 #[v] w (Gets w (.bool (decide (256<b.length)))):=by
 obtain ⟨A,n,cp,rfl,h2,h3,h4,h5⟩:=hv
 refine Sy.enter (args:=[.slice A n cp]) Tryz.func164 rfl kL ?_
 refine sC ?_
 refine sP (.bool false) ?_
 refine sA ?_
 rw [h2]
 refine sp rfl<|sP (.int .i64 (n:Int))<|sS (.bool (decide (256<n))) (Quiet.pure (exec_int .gtr _ _ _ .i64 _ _ _ rfl rfl rfl (int_gtr _ _ _ _ _ (decide_eq_decide.2 (by omega)))))<|sp rfl ?_
 refine sG<|Sy.ret ?_
 exact rV (.bool (decide (256<n))) rfl
def smalls (l:List Byt):Bool:=l.all λb=>decide (b.length≤256)
def IxR (L:Blocks) (l:List Byt) (v:Value) (M:Blocks):Prop:=∃ z:Int,v=.int .i64 z∧(decide (0≤z)=!(smalls l))∧M=L
theorem index_any (w0:Base) (L R:Blocks) (hR:∀ b∈R,b∈L) (v:Value) (zs:List (Value×Byt)) (hv:Arg (rdC w0 R) (rdC w0 R) v zs) (w:World) (hw:St w0 w L):Calls Tryz.prog 206 #[v,.func (.func 164) #[] #[]] w (Turns w0 (IxR L (zs.map (·.2)))):=by
 obtain ⟨A,n,cp,rfl,h2,h3,h4,h5⟩:=hv
 refine Sy.enterT (args:=[.slice A n cp,.func (.func 164) #[] #[]]) hw Tryz.func206 rfl kL ?_
 have hmx:cp<9223372036854775808:=by simp only [maxLen] at h4; omega
 refine sC ?_
 refine sP (.int .i64 0) ?_
 refine sG<|Sy.seq<|sC ?_
 refine sp rfl<|sP (.int .i64 (n:Int))<|sP (.int .i64 0) ?_
 refine sG<|Sy.block ?_
 refine Sy.loopT (Y:=Unit) n (λi _=>[(0,.slice A n cp),(1,.func (.func 164) #[] #[]),(7,.int .i64 (n:Int)),(8,.int .i64 (i:Int))]) (λ_ _=>L) (λi _=>smalls ((zs.take i).map (·.2))=true) () rfl (all_cons kR (all_cons kR (all_cons kR (all_cons kR all_nil)))) (λ_ h=>h) (λi _ hi hy=>?_)
 refine sC ?_
 obtain ⟨b2,hb2⟩:∃ t_:Bool,t_=decide (i<n):=⟨_,rfl⟩
 refine sS (.bool b2) (Quiet.pure (exec_int .lss _ _ _ .i64 _ _ _ rfl rfl rfl (int_lss _ _ _ _ _ (by rw [hb2]; exact decide_eq_decide.2 (by omega))))) ?_
 refine sG<|Sy.seq ?_
 cases b2
 case' false =>
  have l2:¬ i<n:=of_decide_eq_false hb2.symm
  obtain rfl:i=n:=by omega
  rw [List.take_of_length_le (by omega)] at hy
  refine sU<|Sy.exit<|Sy.then_exit<|Sy.then_exit<|Sy.in_exit<|Sy.then_<|sC ?_
  refine sP (.int .i64 (-1)) ?_
  refine sG<|Sy.ret ?_
  exact Sy.retT1 L rfl (.inl (show _=some (.int .i64 (-1)) by kernel_rfl)) (λ_ h=>h) ⟨-1,rfl,by rw [hy]; rfl,rfl⟩
 have l2:i<n:=of_decide_eq_true hb2.symm
 obtain ⟨q1,hz⟩:∃ q1,zs[i]? = some q1:=⟨_,List.getElem?_eq_getElem (by omega)⟩
 obtain ⟨g,o,rfl,hq⟩:=h5 (by intro e; rw [e] at hz; cases hz)
 obtain ⟨c0,d0⟩:=hq i q1 hz
 have htk:smalls ((zs.take (i+1)).map (·.2))=decide (q1.2.length≤256):=by
  rw [List.take_add_one,hz,List.map_append]
  unfold smalls at hy ⊢
  rw [List.all_append,hy]
  simp
 refine sT<|Sy.skip<|Sy.then_<|Sy.seq<|Sy.block<|sC ?_
 refine sp rfl<|sp rfl ?_
 refine sG<|sC ?_
 obtain ⟨b3,hb3⟩:∃ t_:Bool,t_=decide (256<q1.2.length):=⟨_,rfl⟩
 refine sp rfl<|sp rfl<|sp rfl<|sS (.pointer (some ⟨g,o+i*1,none⟩)) (Quiet.pure (exec_at 66 29 _ _ g o n cp i 1 .i64 rfl rfl rfl Tryz.underlying66 kF l2))<|sS q1.1 (cellC (R:=R) (show rdC w0 R g (o+i*1) q1.1 by rw [Nat.mul_one]; exact c0) hR rfl Tryz.underlying29)<|sS (.bool b3) (by rw [hb3]; exact qg (λw hw=>fits1_any w q1.1 q1.2 (d0.le (rdC_world hw hR)))) ?_
 refine sG ?_
 cases b3
 case' true =>
  have l3:256<q1.2.length:=of_decide_eq_true hb3.symm
  refine sT<|sC ?_
  refine sp rfl<|sp rfl ?_
  refine sG<|Sy.ret<|Sy.in_ret<|Sy.then_ret<|Sy.then_ret<|Sy.in_ret<|Sy.then_ret ?_
  exact Sy.retT1 L rfl (.inl (show _=some (.int .i64 (i:Int)) by kernel_rfl)) (λ_ h=>h) ⟨(i:Int),rfl,by
   have:smalls (zs.map (·.2))=false:=by
    unfold smalls
    rw [List.all_eq_false]
    exact ⟨q1.2,List.mem_map.2 ⟨q1,List.mem_of_getElem? hz,rfl⟩,by simp; omega⟩
   rw [this]; simp,rfl⟩
 have l3:¬ 256<q1.2.length:=of_decide_eq_false hb3.symm
 refine sU<|Sy.skip<|Sy.in_<|Sy.then_<|Sy.region ?_
 refine sS (.int .i64 ((i+1:Nat):Int)) (Quiet.pure (exec_int .add _ _ _ .i64 _ _ _ rfl rfl rfl (int_add _ _ _ _ _ ((wrap_i64 (by omega) (by omega)).trans (by omega)))))<|sp rfl ?_
 refine Sy.nil ?_
 exact Sy.againT () l2 (by rw [htk]; simp; omega) (all_cons kR (all_cons kR (all_cons kR (all_cons kR all_nil)))) (λw h=>h)
theorem contains_any (w0:Base) (L R:Blocks) (hR:∀ b∈R,b∈L) (v:Value) (zs:List (Value×Byt)) (hv:Arg (rdC w0 R) (rdC w0 R) v zs) (w:World) (hw:St w0 w L):Calls Tryz.prog 163 #[v,.func (.func 164) #[] #[]] w (Turns w0 (λu M=>u=.bool (!(smalls (zs.map (·.2))))∧M=L)):=by
 refine Sy.enterT (args:=[v,.func (.func 164) #[] #[]]) hw Tryz.func163 rfl kL ?_
 refine sC ?_
 refine sP (.bool false) ?_
 refine sA ?_
 refine sp rfl<|sp rfl ?_
 refine Sy.callT (λw hw=>index_any w0.inn L R hR v zs hv w hw) (λu M hM=>?_)
 obtain ⟨z,rfl,hz,rfl⟩:=hM
 refine sS (.bool (!(smalls (zs.map (·.2))))) (Quiet.pure (exec_int .geq _ _ _ .i64 _ _ _ rfl rfl rfl (int_geq _ _ _ _ _ hz)))<|sp rfl ?_
 refine sG<|Sy.ret ?_
 exact Sy.retT1 _ rfl (.inl (show _=some (.bool (!(smalls (zs.map (·.2))))) by kernel_rfl)) (λ_ h=>h) ⟨rfl,rfl⟩
theorem fits_any (w0:Base) (L R:Blocks) (hR:∀ b∈R,b∈L) (v:Value) (zs:List (Value×Byt)) (hv:Arg (rdC w0 R) (rdC w0 R) v zs) (w:World) (hw:St w0 w L):Calls Tryz.prog 100 #[v] w (Turns w0 (λu M=>u=.bool (fits (zs.map (·.2)))∧M=L)):=by
 have hv0:=hv
 obtain ⟨A,n,cp,rfl,h2,h3,h4,h5⟩:=hv
 refine Sy.enterT (args:=[.slice A n cp]) hw Tryz.func100 rfl kL ?_
 refine sC ?_
 refine sP (.bool false) ?_
 refine sA ?_
 obtain ⟨b1,hb1⟩:∃ t_:Bool,t_=decide (n≤16):=⟨_,rfl⟩
 refine sp rfl<|sP (.int .i64 (n:Int))<|sS (.bool b1) (Quiet.pure (exec_int .leq _ _ _ .i64 _ _ _ rfl rfl rfl (int_leq _ _ _ _ _ (by rw [hb1]; exact decide_eq_decide.2 (by omega)))))<|sp rfl ?_
 have e:fits (zs.map (·.2))=(b1 && smalls (zs.map (·.2))):=by
  unfold fits smalls; rw [List.length_map,h2,hb1]
 rw [e]
 cases b1
 case' false =>
  refine sN<|sN<|sN<|sP (.bool false)<|sp rfl ?_
  refine sG<|Sy.ret ?_
  exact Sy.retT1 _ rfl (.inl (show _=some (.bool false) by kernel_rfl)) (λ_ h=>h) ⟨rfl,rfl⟩
 refine sp rfl ?_
 refine Sy.callT (λw hw=>contains_any w0.inn L R hR (.slice A n cp) zs hv0 w hw) (λu M hM=>?_)
 obtain ⟨rfl,rfl⟩:=hM
 obtain ⟨b2,hb2⟩:∃ b2,b2=smalls (zs.map (·.2)):=⟨_,rfl⟩
 rw [← hb2]
 refine sP (.bool (!(!b2)))<|sP (.bool (!(!b2)))<|sp rfl ?_
 refine sG<|Sy.ret ?_
 exact Sy.retT1 _ rfl (.inl (show _=some (.bool (!(!b2))) by kernel_rfl)) (λ_ h=>h) ⟨by rw [Bool.not_not,Bool.true_and],rfl⟩
def ClR (zs:List (Value×Byt)) (u:Value) (M:Blocks):Prop:=∃ y:Slc,u=y.v∧M=y.bl∧y.Is 29 1 (zs.map λz=>[z.1])
theorem cloneW_any (w:World) (v:Value) (zs:List (Value×Byt)) (hv:Arg (rdW w) (rdW w) v zs) (hn:zs.length≤16):Calls Tryz.prog 101 #[v] w (GetsN w (ClR zs)):=by
 obtain ⟨A,n,cp,rfl,h2,h3,h4,h5⟩:=hv
 refine Sy.enter (args:=[.slice A n cp]) Tryz.func101 rfl kL ?_
 refine sC ?_
 refine sP (.slice none 0 0) ?_
 refine sG<|Sy.seq<|sC ?_
 rcases A with _ | a
 ·refine sp rfl<|sP (.bool true) ?_
  refine sG<|sT<|sC ?_
  refine sP (.slice none 0 0) ?_
  refine sG<|Sy.ret<|Sy.then_ret ?_
  have hz:zs=[]:=by
   rcases zs with _ | ⟨z,l⟩
   ·rfl
   ·obtain ⟨g,o,e,_⟩:=h5 (by simp); cases e
  subst hz
  exact Sy.retGM [] rfl (.inl (show _=some (.slice none 0 0) by kernel_rfl)) (λ_ h=>h) ⟨nilS,rfl,rfl,Slc.Is.nil _ _⟩
 refine sp rfl<|sP (.bool false) ?_
 refine sG<|sU<|Sy.skip<|Sy.then_<|sC ?_
 refine Sy.make kR 29 #[] (λg=>.slice (some ⟨g,0,none⟩) 0 0) kF (λg1=>?_)
 refine sp rfl ?_
 have hr1:Slc.Is ⟨.slice (some ⟨g1,0,none⟩) 0 0,[(g1,29,#[])]⟩ 29 1 []:=Slc.Is.mk' (cs:=[]) (λ_ h=>by cases h) (λ_ h=>by cases h) rfl rfl rfl (Nat.le_refl _) (by decide)
 have hone:∀ y∈zs.map (λz=>[z.1]), ∀ u∈y,u.oneCell'=true:=λy hy u hu=>by
  obtain ⟨z,hz,rfl⟩:=List.mem_map.1 hy
  rw [List.mem_singleton.1 hu]
  obtain ⟨i,hi⟩:=List.getElem?_of_mem hz
  obtain ⟨g,o,_,hq⟩:=h5 (by intro e; rw [e] at hz; cases hz)
  exact (hq i z hi).2.cells.2
 have hf:∀ L',From (Base.of w) L' (some a) (zs.map λz=>[z.1]).flatten:=λL' w' hw'=>by
  have e1:∀ l:List (Value×Byt),(l.map λz=>[z.1]).flatten=l.map (·.1):=λl=>by
   induction l with
   | nil=>rfl
   | cons a l ih=>show a.1::(l.map λz=>[z.1]).flatten=_; rw [ih]; rfl
  rw [e1]
  rcases zs with _ | ⟨z,l⟩
  ·exact .inl rfl
  ·obtain ⟨g,o,e,hq⟩:=h5 (by simp)
   injection e with e
   subst e
   refine .inr ⟨_,rfl,λj u hj=>?_⟩
   rw [addr_off]
   rw [List.getElem?_map] at hj
   cases hx:(z::l)[j]? with
   | none=>rw [hx] at hj; cases hj
   | some x =>
    rw [hx] at hj
    cases hj
    obtain ⟨⟨p1,p2⟩,_⟩:=hq j x hx
    exact (Below.cell (p:=⟨g,o+j,none⟩) hw'.below p1).trans p2
 refine Sy.appendM (pre:=[]) (T:=[]) (r:=⟨.slice (some ⟨g1,0,none⟩) 0 0,[(g1,29,#[])]⟩) kR 66 29 _ _ 1 24 Tryz.underlying66 info_sl rfl rfl rfl rfl (by decide) _ _ rfl hr1 kR (λy hy=>by obtain ⟨z,_,rfl⟩:=List.mem_map.1 hy; rfl) hone (some a) n cp (by rw [List.length_map,h2]) h3 kR (λr=>hf _) (by simp; omega) (by simp [maxLen]; omega) (λs2 hs2=>?_)
 refine sp rfl ?_
 refine sG<|Sy.ret ?_
 exact Sy.retGM s2.bl rfl (.inl (show _=some s2.v by kernel_rfl)) (λ_ h=>by simpa using h) ⟨s2,rfl,rfl,hs2⟩
end Pg
end
section
namespace Pg
open Go.RowKit Sy
set_option maxRecDepth 100000
set_option maxHeartbeats 4000000
open Wr
theorem mcs_one {v:Value} {m:Byt} {h k:Nat} (hv:v.oneCell'=true):∀ u∈mcs v m h (.slice none 0 0) k,u.oneCell'=true:=λu hu=>by
 unfold mcs at hu
 simp only [List.mem_cons,List.mem_append,List.mem_map,List.not_mem_nil,or_false] at hu
 rcases hu with rfl | ⟨b,_,rfl⟩ | rfl | rfl | rfl
 ·exact hv
 all_goals rfl
noncomputable def infMa:TypeInfo:=(Tryz.prog.info? 190).getD default
theorem info_ma:Tryz.prog.info? 190=some infMa:=by kernel_rfl
theorem build_ma {F:Slots} {o:Oper} (m:Byt) (hm:m.length=32) (h:Nat) (v:Value) (hv:v.cells=#[v]) (x y u:Operand) (ho:o.op=.build 190 #[(0,x),(1,y),(2,u)]) (hx:evF F x=v) (hy:evF F y=.agg (m.map bv).toArray) (hu:evF F u=.int .u64 ((h:Nat):Int)) (w:World):(execOp (evF F) o).run Tryz.prog w=.ok (.value (.agg (mcs v m h (.slice none 0 0) 0).toArray)) w:=by
 have hb:Tryz.prog.built 190 #[(0,v),(1,.agg (m.map bv).toArray),(2,.int .u64 ((h:Nat):Int))].toList=some (mcs v m h (.slice none 0 0) 0).toArray:=by
  unfold Program.built
  rw [info_ma,Tryz.underlying190]
  have hz:infMa.zero=some (.agg (.slice none 0 0::((List.replicate 32 (0:UInt8)).map bv++[.int .u64 0,.slice none 0 0,.int .i64 0])).toArray):=by kernel_rfl
  simp only [hz]
  have e1:=fill_at (place:=λi=>[(0,1),(1,32),(33,1),(34,1),(35,1)].toArray[i]?) (A:=[]) (B:=[.slice none 0 0]) (C:=(List.replicate 32 (0:UInt8)).map bv++[.int .u64 0,.slice none 0 0,.int .i64 0]) (c:=[v]) (v:=v) (i:=0) (n:=1) (o:=0) (rest:=[(1,.agg (m.map bv).toArray),(2,.int .u64 ((h:Nat):Int))]) rfl hv rfl rfl rfl
  have e2:=fill_at (place:=λi=>[(0,1),(1,32),(33,1),(34,1),(35,1)].toArray[i]?) (A:=[v]) (B:=(List.replicate 32 (0:UInt8)).map bv) (C:=[.int .u64 0,.slice none 0 0,.int .i64 0]) (c:=m.map bv) (v:=.agg (m.map bv).toArray) (i:=1) (n:=32) (o:=1) (rest:=[(2,.int .u64 ((h:Nat):Int))]) rfl rfl rfl (by rw [List.length_map,List.length_replicate]) (by rw [List.length_map,hm])
  have e3:=fill_at (place:=λi=>[(0,1),(1,32),(33,1),(34,1),(35,1)].toArray[i]?) (A:=v::m.map bv) (B:=[.int .u64 0]) (C:=[.slice none 0 0,.int .i64 0]) (c:=[.int .u64 ((h:Nat):Int)]) (v:=.int .u64 ((h:Nat):Int)) (i:=2) (n:=1) (o:=33) (rest:=[]) rfl rfl (by rw [List.length_cons,List.length_map,hm]) rfl rfl
  exact (e1.trans (e2.trans (e3.trans fill_nil)))
 have hr:=run_build (P:=Tryz.prog) w 190 #[(0,v),(1,.agg (m.map bv).toArray),(2,.int .u64 ((h:Nat):Int))] _ hb
 unfold execOp
 simp only [ho,Sem.run_bind,List.map_toArray,List.map_cons,List.map_nil,hx,hy,hu,hr,Result.andThen_ok,Sem.run_pure]
theorem parse_err (p:Byt):(parse p).1≤135:=by
 have h:∀ (n:Nat) (p:Byt) (o:List Bool),(parseN n p o).1≤135:=by
  intro n
  induction n with
  | zero=>intro p o; cases p <;> (unfold parseN; try split) <;> simp
  | succ n ih =>
   intro p o
   cases p with
   | nil=>unfold parseN; split <;> simp
   | cons c r =>
    unfold parseN
    split
    ·simp
    ·split
     ·simp
     ·split
      ·simp
      ·split
       ·simp
       ·exact ih _ _
 unfold parse
 split
 ·simp
 ·exact h _ _ _
theorem right_any (w0:Base) (L R:Blocks) (hR:∀ b∈R,b∈L) (v:Value) (p:Byt) (hv:BytR (rdC w0 R) v p) (w:World) (hw:St w0 w L):Calls Tryz.prog 56 #[v] w (Turns w0 (λu M=>u=.int .i64 (((parse p).1:Nat):Int)∧M=L)):=by
 refine Sy.enterT (args:=[v]) hw Tryz.func56 rfl kL ?_
 refine sC ?_
 refine sP (.int .i64 0) ?_
 refine sA ?_
 refine sp rfl ?_
 refine Sy.callT (λw hw=>parse_any w0.inn L R v p hR hv w hw) (λu M hM=>?_)
 obtain ⟨y,xs,rfl,rfl,hy,hq⟩:=hM
 refine sp rfl<|sp rfl<|sp rfl<|sp rfl<|sp rfl ?_
 refine sA ?_
 refine sp rfl<|sp rfl ?_
 refine sG<|Sy.ret ?_
 exact Sy.retT1 L rfl (.inl (show _=some (.int .i64 (((parse p).1:Nat):Int)) by kernel_rfl)) (λ_ h=>h.less (List.sublist_append_left _ _)) ⟨rfl,rfl⟩
theorem run_any {Tb:World→Prop} (E:Env) (m:Byt) (hm:m.length=32) (hh:E.h<18446744073709551616) (w0:Base) (hTb:Tb w0.world) (L R:Blocks) (hR:∀ b∈R,b∈L) (pv wv:Value) (p:Byt) (zs:List (Value×Byt)) (hp:BytR (rdC w0 R) pv p) (hz:Arg (rdC w0 R) (rdC w0 R) wv zs) (hE:∀ x∈(parse p).2,EfC Tb E m x (fnOf x.1)) (w:World) (hw:St w0 w L) :
  Calls Tryz.prog 55 #[pv,wv,.agg (m.map bv).toArray,.int .u64 ((E.h:Nat):Int)] w (Turns w0 (λu M=>u=.int .i64 ((run E p (zs.map (·.2)):Nat):Int)∧M=L)):=by
 refine Sy.enterT (args:=[pv,wv,.agg (m.map bv).toArray,.int .u64 ((E.h:Nat):Int)]) hw Tryz.func55 rfl kL ?_
 have hml:(m.map bv).length=32:=by rw [List.length_map,hm]
 refine sC ?_
 refine sM 28 (m.map bv).toArray (λg6=>?_) kR (λw=>run_boxR rfl rfl (by kernel_rfl) hml w)
 obtain ⟨L1,hL1⟩:∃ L1,L1=L++[(g6,28,(m.map bv).toArray)]:=⟨_,rfl⟩
 rw [← hL1]
 have hLL:∀ b∈L,b∈L1:=λb hb=>by rw [hL1]; exact List.mem_append_left _ hb
 have h6:(g6,28,(m.map bv).toArray)∈L1:=by rw [hL1]; simp
 have hR1:∀ b∈R,b∈L1:=λb hb=>hLL b (hR b hb)
 have hsub:List.Sublist L L1:=by rw [hL1]; exact List.sublist_append_left _ _
 refine sP (.int .i64 0) ?_
 refine sA ?_
 refine sp rfl ?_
 refine Sy.callT (λw hw=>parse_any w0.inn L1 R pv p hR1 hp w hw) (λu M hM=>?_)
 obtain ⟨y,xs,rfl,rfl,hy,hq⟩:=hM
 have hpe:=parse_err p
 have hok:∀ z∈xs,okO z.2:=λz hz=>parse_ok p _ (by rw [hq]; exact List.mem_map.2 ⟨z,hz,rfl⟩)
 have hE':∀ z∈xs,EfC Tb E m z.2 (fnOf z.2.1):=λz hz=>hE _ (by rw [hq]; exact List.mem_map.2 ⟨z,hz,rfl⟩)
 have hxl:xs.length≤256:=by
  have:=parse_len p
  rw [hq,List.length_map] at this; exact this
 obtain ⟨e,he⟩:∃ e,e=(parse p).1:=⟨_,rfl⟩
 rw [← he] at hpe ⊢
 refine sp rfl<|sp rfl<|sp rfl<|sp rfl<|sp rfl ?_
 refine sG<|Sy.seq<|sC ?_
 obtain ⟨b1,hb1⟩:∃ t_:Bool,t_=decide (e≠0):=⟨_,rfl⟩
 refine sp rfl<|sS (.bool b1) (Quiet.pure (exec_int .neq _ _ _ .i64 _ _ _ rfl rfl rfl (int_neq _ _ _ _ _ (by rw [hb1]; exact decide_eq_decide.2 (by omega))))) ?_
 refine sG ?_
 cases b1
 case' true =>
  have l1:e≠0:=of_decide_eq_true hb1.symm
  refine sT<|sC ?_
  refine sp rfl<|sp rfl ?_
  refine sG<|Sy.ret<|Sy.then_ret ?_
  have er:run E p (zs.map (·.2))=e:=by unfold run; rw [if_pos (by rw [← he]; exact l1), ← he]
  exact Sy.retT1 L rfl (.inl (show _=some (.int .i64 ((e:Nat):Int)) by kernel_rfl)) (λ_ h=>h.less (hsub.trans (List.sublist_append_left _ _))) ⟨by rw [er],rfl⟩
 have l1:e=0:=by
  have:=of_decide_eq_false hb1.symm
  omega
 refine sU<|Sy.skip<|Sy.then_<|Sy.seq<|sC ?_
 refine sp rfl ?_
 refine Sy.callT (λw hw=>fits_any w0.inn (L1++y.bl) R (λb hb=>List.mem_append_left _ (hR1 b hb)) wv zs hz w hw) (λu M hM=>?_)
 obtain ⟨rfl,rfl⟩:=hM
 obtain ⟨b2,hb2⟩:∃ b2,b2=fits (zs.map (·.2)):=⟨_,rfl⟩
 rw [← hb2]
 refine sP (.bool (!b2)) ?_
 refine sG ?_
 cases b2
 case' false =>
  refine sT<|sC ?_
  refine sP (.int .i64 130) ?_
  refine sG<|Sy.ret<|Sy.then_ret ?_
  have er:run E p (zs.map (·.2))=130:=by unfold run; rw [if_neg (by rw [← he]; omega), ← hb2]; rfl
  exact Sy.retT1 L rfl (.inl (show _=some (.int .i64 130) by kernel_rfl)) (λ_ h=>h.less (hsub.trans (List.sublist_append_left _ _))) ⟨by rw [er]; rfl,rfl⟩
 have hzl:zs.length≤16:=by
  have h:=hb2.symm
  unfold fits at h
  rw [Bool.and_eq_true,decide_eq_true_iff,List.length_map] at h
  exact h.1
 refine sU<|Sy.skip<|Sy.then_<|Sy.seq ?_
 refine Sy.regionD (λj=>j == 6) kR ?_
 obtain ⟨T,hT⟩:∃ T,T=L1++y.bl:=⟨_,rfl⟩
 rw [← hT]
 have h6T:(g6,28,(m.map bv).toArray)∈T:=by rw [hT]; exact List.mem_append_left _ h6
 have hRT:∀ b∈R,b∈T:=λb hb=>by rw [hT]; exact List.mem_append_left _ (hR1 b hb)
 have hyT:∀ b∈y.bl,b∈T:=λb hb=>by rw [hT]; exact List.mem_append_right _ hb
 refine sa 0 rfl rfl<|sD 2 rfl (.agg (m.map bv).toArray) (rowC (R:=T) (cs:=m.map bv) (λj u hu=>.inr ⟨_,_,h6T,by rw [Nat.zero_add,List.getElem?_toArray]; exact hu⟩) (λ_ h=>h) hml rfl Tryz.underlying28)<|sa 3 rfl rfl ?_
 refine Sy.joinG (T:=Slc×Nat) (λz=>[(9,y.v),(11,ptr z.2),(27,.agg (mcs z.1.v m E.h (.slice none 0 0) 0).toArray)]) (λz=>[(z.2,190,(.slice none 0 0::((List.replicate 32 (0:UInt8)).map bv++[.int .u64 0,.slice none 0 0,.int .i64 0])).toArray)]++(z.1.bl++T)) (λz=>z.1.Is 29 1 (zs.map λz=>[z.1])) 1 #[true,true,true,true,true,true,false] (λz hs=>?_) (λk=>?_)
 case refine_2 =>
  have hcl:∀ w,St w0.inn w T→Calls Tryz.prog 101 #[wv] w (GetsN w (ClR zs)):=λw hw=>cloneW_any w wv zs (by
   obtain ⟨A,n,cp,e1,e2,e3,e4,e5⟩:=hz
   exact ⟨A,n,cp,e1,e2,e3,e4,λhne=>by
    obtain ⟨g,o,q1,q2⟩:=e5 hne
    exact ⟨g,o,q1,λj z hj=>⟨rdC_world hw hRT _ _ _ (q2 j z hj).1,(q2 j z hj).2.le (rdC_world hw hRT)⟩⟩⟩) hzl
  refine Sy.anyOf [1,5] (by kernel_rfl) (by decide) (Sy.each2 ?_ ?_)
  ·refine Sy.oneCallN rfl (by kernel_rfl) 101 #[wv] (by intro _; kernel_rfl) (ClR zs) hcl (λu M hM=>?_)
   obtain ⟨s,rfl,rfl,hs⟩:=hM
   refine sv 4 rfl (.agg (mcs s.v m E.h (.slice none 0 0) 0).toArray) (build_ma m hm E.h s.v hs.cells.1 _ _ _ rfl rfl rfl rfl) ?_
   refine Sy.makeD 5 rfl kR kR 190 (.slice none 0 0::((List.replicate 32 (0:UInt8)).map bv++[.int .u64 0,.slice none 0 0,.int .i64 0])).toArray ptr kF (λgm=>?_)
   exact leafE k (s,gm) hs rfl (all_cons kR (all_cons kR (all_cons kR all_nil))) (Sy.flat_perm (ls:=[T,s.bl,[(gm,190,(.slice none 0 0::((List.replicate 32 (0:UInt8)).map bv++[.int .u64 0,.slice none 0 0,.int .i64 0])).toArray)]]) (ms:=[[(gm,190,(.slice none 0 0::((List.replicate 32 (0:UInt8)).map bv++[.int .u64 0,.slice none 0 0,.int .i64 0])).toArray)],s.bl,T]) [2,1,0] kR rfl (by simp) (by simp))
  ·refine Sy.oneMake rfl (by kernel_rfl) 190 (.slice none 0 0::((List.replicate 32 (0:UInt8)).map bv++[.int .u64 0,.slice none 0 0,.int .i64 0])).toArray ptr kF (λgm=>?_)
   refine Sy.callND 1 rfl kR kR 101 #[wv] (by intro _; kernel_rfl) (ClR zs) (λw hw=>hcl w (hw.less (List.sublist_append_left _ _))) (λu M hM=>?_)
   obtain ⟨s,rfl,rfl,hs⟩:=hM
   refine sv 4 rfl (.agg (mcs s.v m E.h (.slice none 0 0) 0).toArray) (build_ma m hm E.h s.v hs.cells.1 _ _ _ rfl rfl rfl rfl) ?_
   exact leafE k (s,gm) hs rfl (all_cons kR (all_cons kR (all_cons kR all_nil))) (Sy.flat_perm (ls:=[T,[(gm,190,(.slice none 0 0::((List.replicate 32 (0:UInt8)).map bv++[.int .u64 0,.slice none 0 0,.int .i64 0])).toArray)],s.bl]) (ms:=[[(gm,190,(.slice none 0 0::((List.replicate 32 (0:UInt8)).map bv++[.int .u64 0,.slice none 0 0,.int .i64 0])).toArray)],s.bl,T]) [1,2,0] kR rfl (by simp) (by simp))
 obtain ⟨s,gm⟩:=z
 dsimp only at hs ⊢
 refine sx 6 rfl 0 rfl (mcs s.v m E.h (.slice none 0 0) 0).toArray (Writes.row 190 (mcs s.v m E.h (.slice none 0 0) 0) 36 _ _ rfl kR kR kR (mcs_len hm) (by simp) (mcs_one hs.cells.2)) ?_
 refine Sy.permD (M:=MS gm s m E.h (.slice none 0 0) 0 T) (List.Perm.of_eq rfl) ?_
 refine sE ?_
 refine Sy.then_<|sC ?_
 refine sp rfl ?_
 have hzb:∀ z∈zs,BytR (rdC w0 T) z.1 z.2:=λz hzm=>by
  obtain ⟨A,n,cp,e1,e2,e3,e4,e5⟩:=hz
  obtain ⟨i,hi⟩:=List.getElem?_of_mem hzm
  obtain ⟨g,o,q1,q2⟩:=e5 (by intro e; rw [e] at hzm; cases hzm)
  exact (q2 i z hi).2.le (rdC_le hRT)
 have hzs:∀ z∈zs,z.2.length≤256:=λz hzm=>by
  have h:=hb2.symm
  unfold fits at h
  rw [Bool.and_eq_true] at h
  have h2:=List.all_eq_true.1 h.2 z.2 (List.mem_map.2 ⟨z,hzm,rfl⟩)
  simpa using h2
 have hyT2:OpsY (rdC w0 T) y xs:=⟨hy.row,λz hz=>(hy.byt z hz).le (rdC_le hRT)⟩
 refine Sy.callT (λw hw=>runs_any E m hm hh w0.inn hTb gm s (.slice none 0 0) T zs y xs ⟨hs,hzb,hzs⟩ (by omega) hyT2 hyT hok hE' hxl w hw) (λu M hM=>?_)
 obtain ⟨s',r',k',N,rfl,rfl⟩:=hM
 refine sp rfl ?_
 refine sG<|Sy.ret ?_
 have er:run E p (zs.map (·.2))=exec E (xs.map (·.2)) (zs.map (·.2)) 0:=by unfold run; rw [if_neg (by rw [← he]; omega), ← hb2,if_pos rfl,hq]
 exact Sy.retT1 L rfl (.inl (show _=some (.int .i64 ((exec E (xs.map (·.2)) (zs.map (·.2)) 0:Nat):Int)) by kernel_rfl)) (λ_ h=>h.less (((hsub.trans (by rw [hT]; exact List.sublist_append_left _ _:List.Sublist L1 T)).trans (List.sublist_append_left T N)).trans ((List.sublist_append_right s'.bl _).trans (List.sublist_append_right _ _)))) ⟨by rw [er],rfl⟩
end Pg
end
section
namespace Pg
open Go.RowKit Sy
set_option maxRecDepth 100000
set_option maxHeartbeats 4000000
open Wr
theorem arg2 {w0:Base} {R:Blocks} {g:Nat} {v u:Value} {a b:Byt} (h:(g,29,#[v,u])∈R) (ha:BytR (rdC w0 R) v a) (hb:BytR (rdC w0 R) u b):Arg (rdC w0 R) (rdC w0 R) (.slice (some ⟨g,0,none⟩) 2 2) [(v,a),(u,b)] :=
 ⟨_,_,_,rfl,rfl,Nat.le_refl _,by decide,λ_=>⟨g,0,rfl,λj z hz=>by
  match j,hz with
  | 0,hz=>cases hz; exact ⟨.inr ⟨_,_,h,rfl⟩,ha⟩
  | 1,hz=>cases hz; exact ⟨.inr ⟨_,_,h,rfl⟩,hb⟩⟩⟩
theorem ef_simple {Tb:World→Prop} (E:Env) (m:Byt) (hm:m.length=32) (hh:E.h<18446744073709551616) (x:Opn) (hok:okO x) (h2:¬ x.1.toNat=102) (h3:¬ x.1.toNat=103) (h4:¬ x.1.toNat=104):EfC Tb E m x (fnOf x.1):=by
 by_cases l0:x.1.toNat≤64
 ·rw [show fnOf x.1=243 by unfold fnOf; rw [if_pos l0]]
  exact push_ef E m hm x l0
 by_cases l96:x.1.toNat=96
 ·rw [show fnOf x.1=244 by unfold fnOf; rw [l96]; rfl]
  exact verify_ef E m hm x l96
 by_cases l97:x.1.toNat=97
 ·rw [show fnOf x.1=245 by unfold fnOf; rw [l97]; rfl]
  exact not_ef E m hm x l97
 by_cases l98:x.1.toNat=98
 ·rw [show fnOf x.1=246 by unfold fnOf; rw [l98]; rfl]
  exact equal_ef E m hm x l98
 by_cases l99:x.1.toNat=99
 ·rw [show fnOf x.1=247 by unfold fnOf; rw [l99]; rfl]
  exact dup_ef E m hm x l99
 by_cases l100:x.1.toNat=100
 ·rw [show fnOf x.1=248 by unfold fnOf; rw [l100]; rfl]
  exact drop_ef E m hm x l100
 by_cases l101:x.1.toNat=101
 ·rw [show fnOf x.1=249 by unfold fnOf; rw [l101]; rfl]
  exact swap_ef E m hm x l101
 by_cases l105:x.1.toNat=105
 ·rw [show fnOf x.1=253 by unfold fnOf; rw [l105]; rfl]
  exact after_ef E m hm x l105
 by_cases l106:x.1.toNat=106
 ·rw [show fnOf x.1=254 by unfold fnOf; rw [l106]; rfl]
  exact branch_ef E m hm x l106
 by_cases l107:x.1.toNat=107
 ·rw [show fnOf x.1=255 by unfold fnOf; rw [l107]; rfl]
  exact other_ef E m hm x l107
 have l108:x.1.toNat=108:=by
  have h1:okO x:=hok
  unfold okO follow at h1
  rw [if_neg l0,if_neg h4] at h1
  split at h1
  ·omega
  ·cases h1
 rw [show fnOf x.1=256 by unfold fnOf; rw [l108]; rfl]
 exact end_ef E m hm x l108
def E0 (h:Nat):Env:=⟨λ_ _=>false,λ_=>[],h⟩
theorem ne_of_small {p:Byt} {k:Nat} (x:Opn) (hx:x∈(parse p).2) (h:(parse p).2.all (λy=>decide (y.1.toNat≠k))=true):¬ x.1.toNat=k:=by
 have:=List.all_eq_true.1 h x hx
 simpa using this
theorem alive13 (w:World):Calls Tryz.prog 27 #[] w (Gets w (.bool true)):=by
 refine Sy.enter (args:=[]) Tryz.func27 rfl kL ?_
 refine sC ?_
 refine sP (.bool false) ?_
 refine sA ?_
 refine sP (.agg ((List.replicate 32 (0:UInt8)).map bv).toArray) ?_
 refine sM 28 ((List.replicate 32 (0:UInt8)).map bv).toArray (λg1=>?_)
 refine sw 0 rfl ((List.replicate 32 (0:UInt8)).map bv).toArray (wA rfl) ?_
 refine sA ?_
 refine Sy.make kR 5 (([1,5,105,1,1]:Byt).map bv).toArray (λg=>.slice (some ⟨g,0,none⟩) 5 5) kF (λg2=>?_)
 refine sS (.agg ((List.replicate 32 (0:UInt8)).map bv).toArray) (qk 0 0 32 rfl rfl Tryz.underlying28) ?_
 have e1:run (E0 5) [1,5,105,1,1] (List.map (·.2) ([]:List (Value×Byt)))=0:=by decide
 refine Sy.callT (λw hw=>run_any (Tb:=λ_=>True) (E0 5) (List.replicate 32 0) rfl (show 5<18446744073709551616 by decide) _ trivial _ _ (λ_ h=>h) (.slice (some ⟨g2,0,Option.none⟩) 5 5) (.slice none 0 0) [1,5,105,1,1] ([]:List (Value×Byt)) (byt_blk (λj v hv=>.inr ⟨5,(([1,5,105,1,1]:Byt).map bv).toArray,by simp,hv⟩) rfl (by decide)) ⟨Option.none,0,0,rfl,rfl,Nat.le_refl _,Nat.zero_le _,λh=>(h rfl).elim⟩ (λx hx=>ef_simple (E0 5) _ rfl (show 5<18446744073709551616 by decide) x (parse_ok _ x hx) (ne_of_small x hx (by decide)) (ne_of_small x hx (by decide)) (ne_of_small x hx (by decide))) w hw) (λu M hM=>?_)
 obtain ⟨rfl,rfl⟩:=hM
 rw [e1]
 refine sP (.bool true)<|sP (.bool true) ?_
 refine Sy.make kR 5 (([1,6,105,1,1]:Byt).map bv).toArray (λg=>.slice (some ⟨g,0,none⟩) 5 5) kF (λg3=>?_)
 refine sS (.agg ((List.replicate 32 (0:UInt8)).map bv).toArray) (qk 0 0 32 rfl rfl Tryz.underlying28) ?_
 have e2:run (E0 5) [1,6,105,1,1] (List.map (·.2) ([]:List (Value×Byt)))=136:=by decide
 refine Sy.callT (λw hw=>run_any (Tb:=λ_=>True) (E0 5) (List.replicate 32 0) rfl (show 5<18446744073709551616 by decide) _ trivial _ _ (λ_ h=>h) (.slice (some ⟨g3,0,Option.none⟩) 5 5) (.slice none 0 0) [1,6,105,1,1] ([]:List (Value×Byt)) (byt_blk (λj v hv=>.inr ⟨5,(([1,6,105,1,1]:Byt).map bv).toArray,by simp,hv⟩) rfl (by decide)) ⟨Option.none,0,0,rfl,rfl,Nat.le_refl _,Nat.zero_le _,λh=>(h rfl).elim⟩ (λx hx=>ef_simple (E0 5) _ rfl (show 5<18446744073709551616 by decide) x (parse_ok _ x hx) (ne_of_small x hx (by decide)) (ne_of_small x hx (by decide)) (ne_of_small x hx (by decide))) w hw) (λu M hM=>?_)
 obtain ⟨rfl,rfl⟩:=hM
 rw [e2]
 refine sP (.bool true)<|sP (.bool true)<|sP (.bool true) ?_
 refine Sy.make kR 5 (([98]:Byt).map bv).toArray (λg=>.slice (some ⟨g,0,none⟩) 1 1) kF (λg4=>?_)
 refine Sy.make kR 5 (([5]:Byt).map bv).toArray (λg=>.slice (some ⟨g,0,none⟩) 1 1) kF (λg5=>?_)
 refine Sy.make kR 5 (([5]:Byt).map bv).toArray (λg=>.slice (some ⟨g,0,none⟩) 1 1) kF (λg6=>?_)
 refine Sy.make kR 29 #[.slice (some ⟨g5,0,none⟩) 1 1,.slice (some ⟨g6,0,none⟩) 1 1] (λg=>.slice (some ⟨g,0,none⟩) 2 2) kF (λg7=>?_)
 refine sS (.agg ((List.replicate 32 (0:UInt8)).map bv).toArray) (qk 0 0 32 rfl rfl Tryz.underlying28) ?_
 have e3:run (E0 0) [98] (List.map (·.2) ([(.slice (some ⟨g5,0,Option.none⟩) 1 1,[5]),(.slice (some ⟨g6,0,Option.none⟩) 1 1,[5])]:List (Value×Byt)))=0:=show run (E0 0) [98] [[5],[5]]=0 by decide
 refine Sy.callT (λw hw=>run_any (Tb:=λ_=>True) (E0 0) (List.replicate 32 0) rfl (show 0<18446744073709551616 by decide) _ trivial _ _ (λ_ h=>h) (.slice (some ⟨g4,0,Option.none⟩) 1 1) (.slice (some ⟨g7,0,Option.none⟩) 2 2) [98] ([(.slice (some ⟨g5,0,Option.none⟩) 1 1,[5]),(.slice (some ⟨g6,0,Option.none⟩) 1 1,[5])]:List (Value×Byt)) (byt_blk (λj v hv=>.inr ⟨5,(([98]:Byt).map bv).toArray,by simp,hv⟩) rfl (by decide)) (arg2 (by simp) (byt_blk (λj v hv=>.inr ⟨5,(([5]:Byt).map bv).toArray,by simp,hv⟩) rfl (by decide)) (byt_blk (λj v hv=>.inr ⟨5,(([5]:Byt).map bv).toArray,by simp,hv⟩) rfl (by decide))) (λx hx=>ef_simple (E0 0) _ rfl (show 0<18446744073709551616 by decide) x (parse_ok _ x hx) (ne_of_small x hx (by decide)) (ne_of_small x hx (by decide)) (ne_of_small x hx (by decide))) w hw) (λu M hM=>?_)
 obtain ⟨rfl,rfl⟩:=hM
 rw [e3]
 refine sP (.bool true)<|sP (.bool true)<|sP (.bool true) ?_
 refine Sy.make kR 5 (([106]:Byt).map bv).toArray (λg=>.slice (some ⟨g,0,none⟩) 1 1) kF (λg8=>?_)
 have e4:(parse [106]).1=135:=by decide
 refine Sy.callT (λw hw=>right_any _ _ _ (λ_ h=>h) (.slice (some ⟨g8,0,Option.none⟩) 1 1) [106] (byt_blk (λj v hv=>.inr ⟨5,(([106]:Byt).map bv).toArray,by simp,hv⟩) rfl (by decide)) w hw) (λu M hM=>?_)
 obtain ⟨rfl,rfl⟩:=hM
 rw [e4]
 refine sP (.bool true)<|sP (.bool true)<|sp rfl ?_
 refine sG<|Sy.ret ?_
 exact rV (.bool true) rfl
end Pg
end
section
namespace Wr
open Go.RowKit Sy
set_option maxRecDepth 100000
set_option maxHeartbeats 4000000
theorem eql_dgs_same (w:World) (F:Slots) (o:Oper) (x y:Operand) (a:List UInt8) (ha:a.length=32) {yt:TypeId} (ho:o.op=.binOp .eql 28 x y yt) (hx:evF F x=.agg (a.map bv).toArray) (hy:evF F y=.agg (a.map bv).toArray):(execOp (evF F) o).run Tryz.prog w=.ok (.value (.bool true)) w:=by
 have q:=eql_dgs w F o x y a a ha ha ho hx hy
 rwa [decide_eq_true rfl] at q
def witI (w:List Byt) (x:MIn):MIn:={ x with wit:=w }
def mixF (f:MIn→MIn) (k:Nat) (l:List MIn):List MIn:=(l.take k).map f++l.drop k
theorem mix_len (f:MIn→MIn) (k:Nat) (l:List MIn):(mixF f k l).length=l.length:=by
 unfold mixF; rw [List.length_append,List.length_map,List.length_take,List.length_drop]; omega
theorem mix_at {f:MIn→MIn} {k:Nat} {l:List MIn} {x:MIn} (h:l[k]? = some x):(mixF f k l)[k]? = some x:=by
 have hk:=(List.getElem?_eq_some_iff.1 h).1
 unfold mixF
 rw [List.getElem?_append_right (by rw [List.length_map,List.length_take]; omega),List.length_map,List.length_take,Nat.min_eq_left (Nat.le_of_lt hk),Nat.sub_self,List.getElem?_drop,Nat.add_zero]
 exact h
theorem mix_set {f:MIn→MIn} {k:Nat} {l:List MIn} {x:MIn} (h:l[k]? = some x):(mixF f k l).set k (f x)=mixF f (k+1) l:=by
 have hk:=(List.getElem?_eq_some_iff.1 h).1
 have hx:=(List.getElem?_eq_some_iff.1 h).2
 unfold mixF
 have hl:((l.take k).map f).length=k:=by rw [List.length_map,List.length_take]; omega
 rw [List.set_append_right _ _ (Nat.le_of_eq hl),hl,Nat.sub_self,List.drop_eq_getElem_cons hk,List.set_cons_zero,List.take_add_one,h,List.map_append,List.append_assoc]
 rfl
theorem mix_all (f:MIn→MIn) (l:List MIn):mixF f l.length l=l.map f:=by
 unfold mixF; rw [List.take_length,List.drop_length,List.append_nil]
theorem wt_mix (w:List Byt) (k:Nat) (hk:∀ x,wtIN (witI w x)≤wtIN x+k) (l:List MIn):((l.map (witI w)).map wtIN).sum≤(l.map wtIN).sum+k*l.length:=by
 induction l with
 | nil=>exact Nat.zero_le _
 | cons x l ih =>
  have q:=hk x
  rw [List.map_cons,List.map_cons,List.map_cons,List.sum_cons,List.sum_cons,List.length_cons,Nat.mul_add,Nat.mul_one]
  omega
def w12:List Byt:=[[1,2]]
theorem wt_12 (x:MIn):wtIN (witI w12 x)≤wtIN x+11:=by
 unfold wtIN witI
 dsimp only
 show _+(_+(_+(_+(9+((9+2)+0)))))≤_
 omega
theorem law_scriptmessages (w:World) (cs:List Value) (x:MTr) (hx:repTR (rdW w) cs x) (hwt:wtTR x≤350000000) (hni:x.ins.length≤1100000) (z0:Int) (co:List Value) (o9:MOu) (ho9:repOU (rdW w) co o9) (hw9:wtOU o9≤400000000) (ht:TbS w) (ht2:TbR w):Calls Tryz.prog 6 #[.agg cs.toArray,.int .i64 z0,.agg co.toArray] w (Gets w (.bool true)):=by
 have hx0:=hx
 have hlo9:co.length=58:=lenOU9 ho9
 obtain ⟨af,is,os⟩:=x
 obtain ⟨vi,vo,rfl,h1,hI,hO⟩:=hx
 dsimp only at h1 hI hO
 obtain ⟨A,n,cp,rfl,hn1,hn2,hn3,hn4⟩:=id hI
 obtain ⟨A2,n2,cp2,rfl,ho1,ho2,ho3,ho4⟩:=id hO
 have hx0:repTR (rdW w) [.int .u64 (af:Int),.slice A n cp,.slice A2 n2 cp2] ⟨af,is,os⟩:=hx0
 have hni:is.length≤1100000:=hni
 show Calls Tryz.prog 6 #[.agg #[.int .u64 (af:Int),.slice A n cp,.slice A2 n2 cp2],.int .i64 z0,.agg co.toArray] w _
 refine Sy.enter (args:=[.agg #[.int .u64 (af:Int),.slice A n cp,.slice A2 n2 cp2],.int .i64 z0,.agg co.toArray]) Tryz.func6 rfl kL ?_
 refine sC ?_
 refine sM 26 #[.int .u64 (af:Int),.slice A n cp,.slice A2 n2 cp2] (λg3=>?_)
 refine sM 88 co.toArray (λg5=>?_) kR (λw=>run_boxR rfl rfl (by kernel_rfl) hlo9 w)
 refine sP (.bool false) ?_
 refine sA ?_
 obtain ⟨d,hd⟩:∃ d,d=msgS ⟨af,is,os⟩ z0 o9:=⟨_,rfl⟩
 have hdl0:d.length=32:=by rw [hd]; exact tagged_len _ _
 have hdl:(d.map bv).length=32:=by rw [List.length_map,hdl0]
 have old:∀ {L:Blocks} (w':World),St (Base.of w) w' L→Le (rdW w) (rdW w'):=λw' hw g o u h=>rdC_world (w0:=Base.of w) (R:=[]) hw (λ_ h=>by cases h) g o u (.inl h)
 refine sS (.agg #[.int .u64 (af:Int),.slice A n cp,.slice A2 n2 cp2]) (qk 0 0 3 rfl rfl Tryz.underlying26)<|sp rfl<|sS (.agg co.toArray) (Quiet.mid 1 g5 0 58 88 88 co co _ _ rfl kR rfl Tryz.underlying88 rfl kR (by rw [List.drop_zero,List.take_of_length_le (by omega)]) (by omega))<|sS (.agg (d.map bv).toArray) (qg (λw' hw=>by rw [hd]; exact msg_any w' [.int .u64 (af:Int),.slice A n cp,.slice A2 n2 cp2] ⟨af,is,os⟩ (monoTR (old w' hw) hx0) (by omega) z0 co o9 (monoOU (old w' hw) ho9) hw9 (tbS_st ht hw))) ?_
 refine sM 28 ((List.replicate 32 (0:UInt8)).map bv).toArray (λg7=>?_)
 refine sw 2 rfl (d.map bv).toArray (Writes.row 28 (d.map bv) 32 _ _ rfl kR kR kR hdl (by simp) (λu hu=>by obtain ⟨b,_,rfl⟩:=List.mem_map.1 hu; rfl)) ?_
 refine sA ?_
 refine sS (.agg #[.int .u64 (af:Int),.slice A n cp,.slice A2 n2 cp2]) (qk 0 0 3 rfl rfl Tryz.underlying26) ?_
 refine sM 26 #[.int .u64 0,.slice none 0 0,.slice none 0 0] (λg8=>?_)
 refine sw 3 rfl #[.int .u64 (af:Int),.slice A n cp,.slice A2 n2 cp2] (wA rfl) ?_
 refine sA ?_
 refine sP (.pointer (some ⟨g3,1,none⟩))<|sS (.slice A n cp) (qc 0 1 rfl rfl Tryz.underlying23) ?_
 obtain ⟨xs,x1,x2,x3⟩:=rows_of hI
 refine Sy.permS (M:=[(g3,26,#[.int .u64 (af:Int),.slice A n cp,.slice A2 n2 cp2]),(g5,88,co.toArray),(g7,28,(d.map bv).toArray),(g8,26,#[.int .u64 (af:Int),.slice A n cp,.slice A2 n2 cp2])]++(nilS.bl++[])) (List.Perm.refl _) ?_
 have hf:∀ L',From (Base.of w) L' A xs.flatten:=λL'=>by
  rcases x3 with rfl | ⟨g,o,e,hx⟩
  ·exact λ_ _=>.inl rfl
  ·subst e
   exact From.of (R:=[]) (λi u hu=>rdW_base _ _ _ (hx i u hu)) (λ_ h=>by cases h)
 refine Sy.appendM kR 23 83 _ _ 122 376 Tryz.underlying23 info_ins rfl rfl rfl rfl (by decide) _ _ rfl (Slc.Is.nil _ _) rfl (λy hy=>by obtain ⟨j,hj⟩:=List.getElem?_of_mem hy; exact (x2 j y hj).1) (λy hy=>by obtain ⟨j,hj⟩:=List.getElem?_of_mem hy; exact (x2 j y hj).2.1) A n cp (by omega) hn2 rfl (λr=>hf _) (by simp only [List.length_nil]; omega) (by simp only [List.length_nil,maxLen]; omega) (λy hyI=>?_)
 have hy:RowsX (rdC (Base.of w) []) 83 122 repIN y is:=RowsX.of hyI (by rw [List.nil_append,x1]) (λj cs hj=>by
  obtain ⟨a,b,x,c,e⟩:=x2 j cs (by simpa using hj)
  exact ⟨a,b,x,c,monoIN rdW_base e⟩)
 obtain ⟨Ay,cpy,hyv,hc1,hc2⟩:=hy.val
 rw [hn1] at hyv hc1
 rw [hyv]
 refine sP (.pointer (some ⟨g8,1,none⟩))<|sw 3 rfl #[.int .u64 (af:Int),.slice Ay n cpy,.slice A2 n2 cp2] (Writes.one 1 23 (.slice Ay n cpy) _ _ rfl kR kR kR rfl rfl kL rfl) ?_
 refine sG<|Sy.seq ?_
 have hmx:n<9223372036854775808:=by simp only [maxLen] at hc2; omega
 refine sC ?_
 refine sP (.pointer (some ⟨g8,1,none⟩))<|sS (.slice Ay n cpy) (qc 3 1 rfl rfl Tryz.underlying23)<|sP (.int .i64 (n:Int))<|sP (.int .i64 0) ?_
 refine sG<|Sy.block ?_
 refine Sy.loopT (Y:=Slc×Blocks) n (λk z=>[(1,.int .i64 z0),(3,ptr g3),(5,ptr g5),(7,ptr g7),(8,ptr g8),(21,.int .i64 (n:Int)),(22,.int .i64 (k:Int))]) (λk z=>[(g3,26,#[.int .u64 (af:Int),.slice A n cp,.slice A2 n2 cp2]),(g5,88,co.toArray),(g7,28,(d.map bv).toArray),(g8,26,#[.int .u64 (af:Int),.slice Ay n cpy,.slice A2 n2 cp2])]++(z.1.bl++z.2)) (λk z=>RowsX (rdC (Base.of w) z.2) 83 122 repIN z.1 (mixF (witI w12) k is)∧z.1.v=.slice Ay n cpy) (y,[]) ⟨by have e:mixF (witI w12) 0 is=is:=rfl; rw [e]; exact hy,hyv⟩ (all_cons kR (all_cons kR (all_cons kR (all_cons kR (all_cons kR (all_cons kR (all_cons kR all_nil))))))) (λ_ h=>h) (λk z hk hz=>?_)
 obtain ⟨z,N⟩:=z
 obtain ⟨hz,hzv⟩:=hz
 dsimp only at hz hzv ⊢
 refine sC ?_
 obtain ⟨b2,hb2⟩:∃ t_:Bool,t_=decide (k<n):=⟨_,rfl⟩
 refine sS (.bool b2) (Quiet.pure (exec_int .lss _ _ _ .i64 _ _ _ rfl rfl rfl (int_lss _ _ _ _ _ (by rw [hb2]; exact decide_eq_decide.2 (by omega))))) ?_
 refine sG<|Sy.seq ?_
 cases b2
 case' true =>
  have l2:k<n:=of_decide_eq_true hb2.symm
  obtain ⟨x,hx⟩:∃ x,is[k]? = some x:=⟨_,List.getElem?_eq_getElem (by omega)⟩
  have hsn:(mixF (witI w12) k is).length=n:=by rw [mix_len,hn1]
  obtain ⟨g,cap,cells,rfl⟩:=hz.open (by intro e; rw [e] at hsn; simp at hsn; omega)
  rw [hsn] at hz hzv
  injection hzv with e1 e2 e3
  subst e1 e3
  rw [hsn]
  refine sT<|Sy.skip<|Sy.then_<|Sy.seq<|Sy.block<|sC ?_
  refine sp rfl<|sp rfl ?_
  refine sG<|Sy.region ?_
  refine sP (.pointer (some ⟨g8,1,none⟩))<|sS (.slice (some ⟨g,0,none⟩) n cap) (qc 3 1 rfl rfl Tryz.underlying23)<|sp rfl ?_
  refine Sy.make kR 5 #[bv 1,bv 2] (λg=>.slice (some ⟨g,0,none⟩) 2 2) kF (λga=>?_)
  refine Sy.make kR 29 #[.slice (some ⟨ga,0,none⟩) 2 2] (λg=>.slice (some ⟨g,0,none⟩) 1 1) kF (λgb=>?_)
  obtain ⟨N2,hN2⟩:∃ N2,N2=N++[(ga,5,#[bv 1,bv 2]),(gb,29,#[.slice (some ⟨ga,0,none⟩) 2 2])]:=⟨_,rfl⟩
  have ha:(ga,5,#[bv 1,bv 2])∈N2:=by rw [hN2]; simp
  have hb:(gb,29,#[.slice (some ⟨ga,0,none⟩) 2 2])∈N2:=by rw [hN2]; simp
  have hz1:RowsX (rdC (Base.of w) N2) 83 122 repIN ⟨.slice (some ⟨g,0,none⟩) n cap,[(g,83,cells)]⟩ (mixF (witI w12) k is):=by
   obtain ⟨xs,h1,h2,h3⟩:=hz
   refine ⟨xs,h1,h2,λj x hx=>?_⟩
   obtain ⟨cs,c1,c2⟩:=h3 j x hx
   exact ⟨cs,c1,monoIN (rdC_le λb hb=>by rw [hN2]; exact List.mem_append_left _ hb) c2⟩
  have hw1:LstR (rdC (Base.of w) N2) 1 repY (.slice (some ⟨gb,0,none⟩) 1 1) w12:=⟨_,1,1,rfl,rfl,Nat.le_refl _,by decide,λ_=>⟨gb,0,rfl,λj z hz=>by
   match j,hz with
   | 0,hz =>
    cases hz
    refine ⟨[.slice (some ⟨ga,0,none⟩) 2 2],rfl,λu hu=>by rw [List.mem_singleton.1 hu]; rfl,⟨_,rfl,⟨_,2,2,rfl,rfl,Nat.le_refl _,by decide,λ_=>⟨ga,0,rfl,λi u hu=>?_⟩⟩⟩,λi u hu=>?_⟩
    ·match i,hu with
     | 0,hu=>cases hu; exact .inr ⟨_,_,ha,rfl⟩
     | 1,hu=>cases hu; exact .inr ⟨_,_,ha,rfl⟩
    ·match i,hu with
     | 0,hu=>cases hu; exact .inr ⟨_,_,hb,rfl⟩⟩⟩
  obtain ⟨hz2,hlt⟩:=hz1.set k 121 (.slice (some ⟨gb,0,none⟩) 1 1) x (witI w12 x) (mix_at hx) (by decide) rfl (λcs h=>wit_rep h _ w12 hw1)
  rw [mix_set hx] at hz2
  refine sS (.pointer (some ⟨g,0+k*122,none⟩)) (Quiet.pure (exec_at 23 83 _ _ g 0 n cap k 122 .i64 rfl rfl rfl Tryz.underlying23 kF l2))<|sP (.pointer (some ⟨g,0+k*122+121,none⟩))<|sw 4 rfl (cells.setIfInBounds (k*122+121) (.slice (some ⟨gb,0,none⟩) 1 1)) (Writes.one (0+k*122+121) 66 (.slice (some ⟨gb,0,none⟩) 1 1) _ _ rfl kR kR kR rfl rfl (by omega) (by rw [show 0+k*122+121=k*122+121 by omega])) ?_
  refine Sy.nil<|Sy.in_<|Sy.then_<|Sy.region ?_
  refine sS (.int .i64 ((k+1:Nat):Int)) (Quiet.pure (exec_int .add _ _ _ .i64 _ _ _ rfl rfl rfl (int_add _ _ _ _ _ ((wrap_i64 (by omega) (by omega)).trans (by omega)))))<|sp rfl ?_
  refine Sy.nil ?_
  exact Sy.againT (⟨.slice (some ⟨g,0,none⟩) n cap,[(g,83,cells.setIfInBounds (k*122+121) (.slice (some ⟨gb,0,none⟩) 1 1))]⟩,N2) l2 ⟨hz2,rfl⟩ (all_cons kR (all_cons kR (all_cons kR (all_cons kR (all_cons kR (all_cons kR (all_cons kR all_nil))))))) (λ_ h=>by rw [hN2]; simpa using h)
 have l2:¬ k<n:=of_decide_eq_false hb2.symm
 obtain rfl:k=n:=by omega
 refine sU<|Sy.exit<|Sy.then_exit<|Sy.then_exit<|Sy.in_exit<|Sy.then_ ?_
 obtain ⟨is',his'⟩:∃ is',is'=is.map (witI w12):=⟨_,rfl⟩
 have hzb:RowsX (rdC (Base.of w) N) 83 122 repIN z is':=by
  rw [his', ← mix_all,hn1]; exact hz
 have hbare:bareT ⟨af,is',os⟩=bareT ⟨af,is,os⟩:=by
  unfold bareT
  dsimp only
  rw [his',List.map_map]
  rfl
 have hid:d=msgS ⟨af,is',os⟩ z0 o9:=by
  rw [hd]
  unfold msgS
  rw [hbare]
 have hwt2:wtTR ⟨af,is',os⟩≤400000000:=by
  have q:=wt_mix w12 11 wt_12 is
  rw [← his'] at q
  unfold wtTR at hwt ⊢
  dsimp only at hwt ⊢
  omega
 refine Sy.seq ?_
 refine Sy.regionD (λ_=>false) kR ?_
 refine sD 0 rfl (.bool true) (qg (λw' _=>Pg.alive13 w'))<|sa 1 rfl rfl<|sD 2 rfl (.agg (d.map bv).toArray) (Quiet.mid 2 g7 0 32 28 28 (d.map bv) (d.map bv) _ _ rfl kR rfl Tryz.underlying28 rfl kR (by rw [List.drop_zero,List.take_of_length_le (by omega)]) (by omega))<|sD 3 rfl (.agg #[.int .u64 (af:Int),.slice A k cp,.slice A2 n2 cp2]) (qk 0 0 3 rfl rfl Tryz.underlying26)<|sa 4 rfl rfl<|sD 5 rfl (.agg co.toArray) (Quiet.mid 1 g5 0 58 88 88 co co _ _ rfl kR rfl Tryz.underlying88 rfl kR (by rw [List.drop_zero,List.take_of_length_le (by omega)]) (by omega))<|sD 6 rfl (.agg (d.map bv).toArray) (qg (λw' hw=>by rw [hd]; exact msg13_any w' [.int .u64 (af:Int),.slice A k cp,.slice A2 n2 cp2] ⟨af,is,os⟩ (monoTR (old w' hw) hx0) (by omega) z0 co o9 (monoOU (old w' hw) ho9) hw9 (tbR_st ht2 hw)))<|sD 7 rfl (.bool true) (Quiet.pure (λw'=>eql_dgs_same w' _ _ _ _ d hdl0 rfl rfl rfl))<|sb 8 rfl (.bool true)<|sa 9 rfl rfl ?_
 refine sD 10 rfl (.agg #[.int .u64 (af:Int),.slice Ay k cpy,.slice A2 n2 cp2]) (qk 3 0 3 rfl rfl Tryz.underlying26)<|sa 11 rfl rfl<|sD 12 rfl (.agg co.toArray) (Quiet.mid 1 g5 0 58 88 88 co co _ _ rfl kR rfl Tryz.underlying88 rfl kR (by rw [List.drop_zero,List.take_of_length_le (by omega)]) (by omega))<|sD 13 rfl (.agg (d.map bv).toArray) (qg (λw' hw=>by
  rw [hid]
  exact msg_any w' [.int .u64 (af:Int),.slice Ay k cpy,.slice A2 n2 cp2] ⟨af,is',os⟩ ⟨_,_,rfl,h1,by
   rw [← hzv]
   exact RowsX.lst (rep:=repIN) (C:=rdC (Base.of w) N) (D:=rdW w') monoIN (λg o u h=>rdC_world (R:=N) hw (λb hb=>by simp [hb]) g o u h) (λg o u h=>rdC_world (R:=z.bl) hw (λb hb=>by simp [hb]) g o u (.inr h)) hzb,LstR.le (rep:=repOU) monoOU (old w' hw) hO⟩ hwt2 z0 co o9 (monoOU (old w' hw) ho9) hw9 (tbS_st ht hw)))<|sD 14 rfl (.agg (d.map bv).toArray) (Quiet.mid 2 g7 0 32 28 28 (d.map bv) (d.map bv) _ _ rfl kR rfl Tryz.underlying28 rfl kR (by rw [List.drop_zero,List.take_of_length_le (by omega)]) (by omega))<|sD 15 rfl (.bool true) (Quiet.pure (λw'=>eql_dgs_same w' _ _ _ _ d hdl0 rfl rfl rfl))<|sb 16 rfl (.bool true)<|sa 17 rfl rfl ?_
 refine sE ?_
 refine Sy.then_<|Sy.ret ?_
 exact rV (.bool true) rfl
end Wr
end
end Go.Proofs.YtgggdbjakcpanaaGreatDoor
