/-
  Texts of ours, put together: ScpH, ScpI, ScpJ, ScpK, ScpL, ScpT, ScpS, FeLift, ScpX, ScpU, ScpV, ScpM, ScriptMakesL, EcJ, CrvJ, CrvK, CrvL, CrvM, ScSpec.
-/
import Derived.Test.YtgggdbjakcpanabGreatDoorSX3
set_option linter.unusedVariables false
set_option linter.unusedSimpArgs false
namespace Go.Proofs.YtgggdbjakcpanabGreatDoor
section
namespace Pg
open Go.RowKit Sy
set_option maxRecDepth 100000
set_option maxHeartbeats 4000000
open Wr
section
variable {P:Program} {F:Slots} {o:Oper}
theorem exec_fromT (t e:TypeId) (x kx:Operand) (A:Option Addr) (n cp k:Nat) (ht:P.underlying t=some (.slice (P.elem t))) (hs:∀ w,(sizeOf (P.elem t)).run P w=.ok 1 w) (ho:o.op=.slice t x (some kx) none none) (hx:evF F x=.slice A n cp) (hk:evF F kx=.int .i64 (k:Int)) (h:k≤n) (w:World):(execOp (evF F) o).run P w=.ok (.value (sliced A k n cp 1)) w:=by
 have e:(Instr.sliceAt t (.slice A n cp) (some (.int .i64 (k:Int))) none none).run P w=.ok (sliced A k n cp 1) w:=by
  rw [run_sliceAt_slice w t _ _ _ _ ht,run_slice_l w t A n cp ht .i64 k (by omega) (by omega),hs,Result.andThen_ok,Int.toNat_natCast]
 unfold execOp
 simp only [ho,hx,hk,Option.map_some,Option.map_none,e,Sem.run_bind,Sem.run_pure,Result.andThen_ok]
theorem exec_nil0 (t:TypeId) (x hx':Operand) (ht:P.underlying t=some (.slice (P.elem t))) (hs:∀ w,(sizeOf (P.elem t)).run P w=.ok 1 w) (ho:o.op=.slice t x none (some hx') none) (hx:evF F x=.slice none 0 0) (hk:evF F hx'=.int .i64 ((0:Nat):Int)) (w:World):(execOp (evF F) o).run P w=.ok (.value (.slice none 0 0)) w:=by
 have e:(Instr.sliceAt t (.slice none 0 0) none (some (.int .i64 ((0:Nat):Int))) none).run P w=.ok (.slice none 0 0) w:=by
  rw [run_sliceAt_slice w t _ _ _ _ ht]
  simp [Instr.slice,run_underlying ht,Instr.sliceBounds,Instr.sliceBound,asIntOf,hs,Result.andThen]
 unfold execOp
 simp only [ho,hx,hk,Option.map_some,Option.map_none,e,Sem.run_bind,Sem.run_pure,Result.andThen_ok]
theorem Slc_cut {y:Slc} {e:TypeId} {xs:List (List Value)} (hy:y.Is e 1 xs) {j:Nat} (hj:j≤xs.length):∃ y0:Slc,y0.bl=y.bl∧y0.Is e 1 (xs.take j)∧∀ {P:Program} {F:Slots} {o:Oper} (t:TypeId) (x hx':Operand),P.underlying t=some (.slice (P.elem t))→(∀ w,(sizeOf (P.elem t)).run P w=.ok 1 w)→o.op=.slice t x none (some hx') none→evF F x=y.v→evF F hx'=.int .i64 ((j:Nat):Int)→∀ w,(execOp (evF F) o).run P w=.ok (.value y0.v) w:=by
 rcases hy.row with ⟨rfl,rfl⟩ | ⟨g,cap,rr,rfl,h1,h2,h3⟩
 ·obtain rfl:j=0:=by simpa using hj
  exact ⟨nilS,rfl,Slc.Is.nil _ _,λt x hx' ht hs ho hx hk w=>exec_nil0 t x hx' ht hs ho hx hk w⟩
 ·refine ⟨⟨.slice (some ⟨g,0,none⟩) j cap,[(g,e,(xs.flatten++rr).toArray)]⟩,rfl,?_,λt x hx' ht hs ho hx hk w=>exec_upto t x hx' g 0 xs.length cap j 1 .i64 ho hx hk ht hs (by omega) w⟩
  have hl:∀ x∈xs.take j,x.length=1:=λx hx=>hy.len x (List.mem_of_mem_take hx)
  refine Slc.Is.mk' hl (λx hx=>hy.one x (List.mem_of_mem_take hx)) (by rw [List.length_take]; omega) ?_ ?_ (by omega) h3
  ·have e1:xs.flatten=(xs.take j).flatten++(xs.drop j).flatten:=by rw [← List.flatten_append,List.take_append_drop]
   have e2:(xs.take j).flatten.length=j*1:=by rw [flat_len' hl,List.length_take]; congr 1; omega
   rw [e1,List.append_assoc, ← e2,List.take_left]
  ·rw [List.length_append,flat_len' hy.len]; omega
theorem Slc_from {w0:Base} {L:Blocks} {y:Slc} {e:TypeId} {sz:Nat} {xs:List (List Value)} (hy:y.Is e sz xs) (hL:∀ b∈y.bl,b∈L):∃ A c,y.v=.slice A xs.length c∧xs.length≤c∧From w0 L A xs.flatten:=by
 rcases hy.row with ⟨rfl,rfl⟩ | ⟨g,cap,rr,rfl,h1,h2,h3⟩
 ·exact ⟨none,0,rfl,Nat.le_refl _,λ_ _=>.inl rfl⟩
 ·obtain ⟨i,hi⟩:=List.getElem?_of_mem (hL _ (List.mem_singleton.2 rfl))
  exact ⟨some ⟨g,0,none⟩,cap,rfl,h2,From.blk hi (by rw [List.drop_zero]; exact List.take_left)⟩
theorem Slc_arg {w0:Base} {T:Blocks} {y:Slc} {zs:List (Value×Byt)} (hy:StkY (rdC w0 T) y zs):∃ A cp,y.v=.slice A zs.length cp∧cp≤maxLen∧∀ j,j≤zs.length→Arg (rdC w0 T) (rdC w0 (y.bl++T)) (sliced A j zs.length cp 1) (zs.drop j):=by
 have hb:=hy.byt
 rcases hy.row.row with ⟨e1,e2⟩ | ⟨g,cap,rr,e2,h1,h2,h3⟩
 ·obtain rfl:zs=[]:=List.map_eq_nil_iff.1 e1
  refine ⟨none,0,by rw [e2]; rfl,Nat.zero_le _,λj hj=>?_⟩
  obtain rfl:j=0:=by simpa using hj
  exact ⟨none,0,0,rfl,rfl,Nat.le_refl _,Nat.zero_le _,λh=>(h rfl).elim⟩
 ·rw [List.length_map] at h1 h2
  refine ⟨some ⟨g,0,none⟩,cap,by rw [e2,List.length_map],h3,λj hj=>⟨_,_,_,rfl,by rw [List.length_drop],by omega,by omega,λhne=>?_⟩⟩
  have hlt:j<zs.length:=by
   rcases Nat.lt_or_ge j zs.length with h | h
   ·exact h
   ·exact (hne (List.drop_of_length_le h)).elim
  refine ⟨g,j,?_,λi z hz=>?_⟩
  ·rw [if_neg (by omega),Option.map_some,addr_off,Nat.mul_one,Nat.zero_add]
  ·rw [List.getElem?_drop] at hz
   refine ⟨.inr ⟨39,_,List.mem_append_left _ (by rw [e2]; exact List.mem_singleton.2 rfl),?_⟩,hb z (List.mem_of_getElem? hz)⟩
   have hf:(zs.map λz=>[z.1]).flatten=zs.map (·.1):=by
    clear hz hlt hne h1 h2 e2 hb hy hj
    induction zs with
    | nil=>rfl
    | cons a l ih=>show a.1::(l.map λz=>[z.1]).flatten=_; rw [ih]; rfl
   rw [hf,List.getElem?_toArray,List.getElem?_append_left (by rw [List.length_map]; exact (List.getElem?_eq_some_iff.1 hz).1),List.getElem?_map,hz]
   rfl
theorem exec_callF {f:FuncId} {u la:Value} {x y:Operand} {ts:Array TypeId} (ho:o.op=.call { callee:=.value x,args:=#[y],argTypes:=ts }) (hx:evF F x=.func (.func f) #[u] #[]) (hy:evF F y=la) (he:∀ args w,(callFunc f args).run P w=.ok (.enter f args) w) (w:World):(execOp (evF F) o).run P w=.ok (.enter f #[u,la]) w:=by
 unfold execOp
 simp [ho,resolve,Deferred.ofValue,hx,hy,invoke,he,go_sem]
end
def fnOf (c:UInt8):FuncId:=if c.toNat≤64 then 86 else match c.toNat with
 | 96=>87
 | 97=>88
 | 98=>89
 | 99=>90
 | 100=>91
 | 101=>92
 | 102=>93
 | 103=>94
 | 104=>95
 | 105=>96
 | 106=>97
 | 107=>98
 | _=>99
theorem fnOf_enters (c:UInt8):∀ (args:Array Value) (w:World),(callFunc (fnOf c) args).run Tryz.prog w=.ok (.enter (fnOf c) args) w:=by
 unfold fnOf
 split
 ·exact enters_of Tryz.func86 kR rfl
 ·split
  ·exact enters_of Tryz.func87 kR rfl
  ·exact enters_of Tryz.func88 kR rfl
  ·exact enters_of Tryz.func89 kR rfl
  ·exact enters_of Tryz.func90 kR rfl
  ·exact enters_of Tryz.func91 kR rfl
  ·exact enters_of Tryz.func92 kR rfl
  ·exact enters_of Tryz.func93 kR rfl
  ·exact enters_of Tryz.func94 kR rfl
  ·exact enters_of Tryz.func95 kR rfl
  ·exact enters_of Tryz.func96 kR rfl
  ·exact enters_of Tryz.func97 kR rfl
  ·exact enters_of Tryz.func98 kR rfl
  ·exact enters_of Tryz.func99 kR rfl
theorem choose_any (w0:Base) (g:Nat) (s:Slc) (m:Byt) (hm:m.length=32) (h k:Nat) (r:Value) (T:Blocks) (x:Opn) (hok:okO x) (hr:BytR (rdC w0 T) r x.2) (w:World) (hw:St w0 w (MS g s m h r k T)):Calls Tryz.prog 66 #[ptr g,bv x.1] w (Turns w0 (λv M=>v=.tuple #[.int .i64 ((needs x:Nat):Int),.func (.func (fnOf x.1)) #[ptr g] #[]]∧M=MS g s m h r k T)):=by
 have hc:=x.1.toNat_lt
 refine Sy.enterT (args:=[ptr g,bv x.1]) hw Tryz.func66 rfl kL ?_
 refine sC ?_
 refine sP (.int .i64 0)<|sP .nilFunc ?_
 refine sG<|Sy.seq<|Sy.block<|sC ?_
 obtain ⟨b0,hb0⟩:∃ t_:Bool,t_=decide (x.1.toNat≤64):=⟨_,rfl⟩
 refine sp rfl<|sS (.bool b0) (Quiet.pure (exec_int .leq _ _ _ .u8 _ _ _ rfl rfl rfl (int_leq _ _ _ _ _ (by rw [hb0]; exact decide_eq_decide.2 (by omega)))))<|sp rfl ?_
 refine sG ?_
 cases b0
 case' true =>
  have l0:x.1.toNat≤64:=of_decide_eq_true hb0.symm
  refine sT<|sC ?_
  refine sp rfl<|sP (.func (.func 86) #[ptr g] #[])<|sP (.int .i64 0)<|sp rfl ?_
  refine sG<|Sy.ret<|Sy.in_ret<|Sy.then_ret ?_
  have e1:needs x=0:=by unfold needs; rw [if_pos l0]
  have e2:fnOf x.1=86:=by unfold fnOf; rw [if_pos l0]
  exact Sy.retT2 _ rfl (.inl (show _=some (.int .i64 ((0:Nat):Int)) by kernel_rfl)) (.inl (show _=some (.func (.func 86) #[ptr g] #[]) by kernel_rfl)) (λ_ h=>h) ⟨by rw [e1,e2],rfl⟩
 have l0:¬ x.1.toNat≤64:=of_decide_eq_false hb0.symm
 refine sU<|sC ?_
 obtain ⟨b1,hb1⟩:∃ t_:Bool,t_=decide (x.1.toNat=96):=⟨_,rfl⟩
 refine sp rfl<|sS (.bool b1) (Quiet.pure (exec_int .eql _ _ _ .u8 _ _ _ rfl rfl rfl (int_eql _ _ _ _ _ (by rw [hb1]; exact decide_eq_decide.2 (by omega)))))<|sp rfl ?_
 refine sG ?_
 cases b1
 case' true =>
  have l1:x.1.toNat=96:=of_decide_eq_true hb1.symm
  refine sT<|sC ?_
  refine sp rfl<|sP (.func (.func 87) #[ptr g] #[])<|sP (.int .i64 1)<|sp rfl ?_
  refine sG<|Sy.ret<|Sy.in_ret<|Sy.then_ret ?_
  have e1:needs x=1:=by unfold needs; rw [l1]; rfl
  have e2:fnOf x.1=87:=by unfold fnOf; rw [l1]; rfl
  exact Sy.retT2 _ rfl (.inl (show _=some (.int .i64 ((1:Nat):Int)) by kernel_rfl)) (.inl (show _=some (.func (.func 87) #[ptr g] #[]) by kernel_rfl)) (λ_ h=>h) ⟨by rw [e1,e2],rfl⟩
 have l1:¬ x.1.toNat=96:=of_decide_eq_false hb1.symm
 refine sU<|sC ?_
 obtain ⟨b2,hb2⟩:∃ t_:Bool,t_=decide (x.1.toNat=97):=⟨_,rfl⟩
 refine sp rfl<|sS (.bool b2) (Quiet.pure (exec_int .eql _ _ _ .u8 _ _ _ rfl rfl rfl (int_eql _ _ _ _ _ (by rw [hb2]; exact decide_eq_decide.2 (by omega)))))<|sp rfl ?_
 refine sG ?_
 cases b2
 case' true =>
  have l2:x.1.toNat=97:=of_decide_eq_true hb2.symm
  refine sT<|sC ?_
  refine sp rfl<|sP (.func (.func 88) #[ptr g] #[])<|sP (.int .i64 1)<|sp rfl ?_
  refine sG<|Sy.ret<|Sy.in_ret<|Sy.then_ret ?_
  have e1:needs x=1:=by unfold needs; rw [l2]; rfl
  have e2:fnOf x.1=88:=by unfold fnOf; rw [l2]; rfl
  exact Sy.retT2 _ rfl (.inl (show _=some (.int .i64 ((1:Nat):Int)) by kernel_rfl)) (.inl (show _=some (.func (.func 88) #[ptr g] #[]) by kernel_rfl)) (λ_ h=>h) ⟨by rw [e1,e2],rfl⟩
 have l2:¬ x.1.toNat=97:=of_decide_eq_false hb2.symm
 refine sU<|sC ?_
 obtain ⟨b3,hb3⟩:∃ t_:Bool,t_=decide (x.1.toNat=98):=⟨_,rfl⟩
 refine sp rfl<|sS (.bool b3) (Quiet.pure (exec_int .eql _ _ _ .u8 _ _ _ rfl rfl rfl (int_eql _ _ _ _ _ (by rw [hb3]; exact decide_eq_decide.2 (by omega)))))<|sp rfl ?_
 refine sG ?_
 cases b3
 case' true =>
  have l3:x.1.toNat=98:=of_decide_eq_true hb3.symm
  refine sT<|sC ?_
  refine sp rfl<|sP (.func (.func 89) #[ptr g] #[])<|sP (.int .i64 2)<|sp rfl ?_
  refine sG<|Sy.ret<|Sy.in_ret<|Sy.then_ret ?_
  have e1:needs x=2:=by unfold needs; rw [l3]; rfl
  have e2:fnOf x.1=89:=by unfold fnOf; rw [l3]; rfl
  exact Sy.retT2 _ rfl (.inl (show _=some (.int .i64 ((2:Nat):Int)) by kernel_rfl)) (.inl (show _=some (.func (.func 89) #[ptr g] #[]) by kernel_rfl)) (λ_ h=>h) ⟨by rw [e1,e2],rfl⟩
 have l3:¬ x.1.toNat=98:=of_decide_eq_false hb3.symm
 refine sU<|sC ?_
 obtain ⟨b4,hb4⟩:∃ t_:Bool,t_=decide (x.1.toNat=99):=⟨_,rfl⟩
 refine sp rfl<|sS (.bool b4) (Quiet.pure (exec_int .eql _ _ _ .u8 _ _ _ rfl rfl rfl (int_eql _ _ _ _ _ (by rw [hb4]; exact decide_eq_decide.2 (by omega)))))<|sp rfl ?_
 refine sG ?_
 cases b4
 case' true =>
  have l4:x.1.toNat=99:=of_decide_eq_true hb4.symm
  refine sT<|sC ?_
  refine sp rfl<|sP (.func (.func 90) #[ptr g] #[])<|sP (.int .i64 1)<|sp rfl ?_
  refine sG<|Sy.ret<|Sy.in_ret<|Sy.then_ret ?_
  have e1:needs x=1:=by unfold needs; rw [l4]; rfl
  have e2:fnOf x.1=90:=by unfold fnOf; rw [l4]; rfl
  exact Sy.retT2 _ rfl (.inl (show _=some (.int .i64 ((1:Nat):Int)) by kernel_rfl)) (.inl (show _=some (.func (.func 90) #[ptr g] #[]) by kernel_rfl)) (λ_ h=>h) ⟨by rw [e1,e2],rfl⟩
 have l4:¬ x.1.toNat=99:=of_decide_eq_false hb4.symm
 refine sU<|sC ?_
 obtain ⟨b5,hb5⟩:∃ t_:Bool,t_=decide (x.1.toNat=100):=⟨_,rfl⟩
 refine sp rfl<|sS (.bool b5) (Quiet.pure (exec_int .eql _ _ _ .u8 _ _ _ rfl rfl rfl (int_eql _ _ _ _ _ (by rw [hb5]; exact decide_eq_decide.2 (by omega)))))<|sp rfl ?_
 refine sG ?_
 cases b5
 case' true =>
  have l5:x.1.toNat=100:=of_decide_eq_true hb5.symm
  refine sT<|sC ?_
  refine sp rfl<|sP (.func (.func 91) #[ptr g] #[])<|sP (.int .i64 1)<|sp rfl ?_
  refine sG<|Sy.ret<|Sy.in_ret<|Sy.then_ret ?_
  have e1:needs x=1:=by unfold needs; rw [l5]; rfl
  have e2:fnOf x.1=91:=by unfold fnOf; rw [l5]; rfl
  exact Sy.retT2 _ rfl (.inl (show _=some (.int .i64 ((1:Nat):Int)) by kernel_rfl)) (.inl (show _=some (.func (.func 91) #[ptr g] #[]) by kernel_rfl)) (λ_ h=>h) ⟨by rw [e1,e2],rfl⟩
 have l5:¬ x.1.toNat=100:=of_decide_eq_false hb5.symm
 refine sU<|sC ?_
 obtain ⟨b6,hb6⟩:∃ t_:Bool,t_=decide (x.1.toNat=101):=⟨_,rfl⟩
 refine sp rfl<|sS (.bool b6) (Quiet.pure (exec_int .eql _ _ _ .u8 _ _ _ rfl rfl rfl (int_eql _ _ _ _ _ (by rw [hb6]; exact decide_eq_decide.2 (by omega)))))<|sp rfl ?_
 refine sG ?_
 cases b6
 case' true =>
  have l6:x.1.toNat=101:=of_decide_eq_true hb6.symm
  refine sT<|sC ?_
  refine sp rfl<|sP (.func (.func 92) #[ptr g] #[])<|sP (.int .i64 2)<|sp rfl ?_
  refine sG<|Sy.ret<|Sy.in_ret<|Sy.then_ret ?_
  have e1:needs x=2:=by unfold needs; rw [l6]; rfl
  have e2:fnOf x.1=92:=by unfold fnOf; rw [l6]; rfl
  exact Sy.retT2 _ rfl (.inl (show _=some (.int .i64 ((2:Nat):Int)) by kernel_rfl)) (.inl (show _=some (.func (.func 92) #[ptr g] #[]) by kernel_rfl)) (λ_ h=>h) ⟨by rw [e1,e2],rfl⟩
 have l6:¬ x.1.toNat=101:=of_decide_eq_false hb6.symm
 refine sU<|sC ?_
 obtain ⟨b7,hb7⟩:∃ t_:Bool,t_=decide (x.1.toNat=102):=⟨_,rfl⟩
 refine sp rfl<|sS (.bool b7) (Quiet.pure (exec_int .eql _ _ _ .u8 _ _ _ rfl rfl rfl (int_eql _ _ _ _ _ (by rw [hb7]; exact decide_eq_decide.2 (by omega)))))<|sp rfl ?_
 refine sG ?_
 cases b7
 case' true =>
  have l7:x.1.toNat=102:=of_decide_eq_true hb7.symm
  refine sT<|sC ?_
  refine sp rfl<|sP (.func (.func 93) #[ptr g] #[])<|sP (.int .i64 1)<|sp rfl ?_
  refine sG<|Sy.ret<|Sy.in_ret<|Sy.then_ret ?_
  have e1:needs x=1:=by unfold needs; rw [l7]; rfl
  have e2:fnOf x.1=93:=by unfold fnOf; rw [l7]; rfl
  exact Sy.retT2 _ rfl (.inl (show _=some (.int .i64 ((1:Nat):Int)) by kernel_rfl)) (.inl (show _=some (.func (.func 93) #[ptr g] #[]) by kernel_rfl)) (λ_ h=>h) ⟨by rw [e1,e2],rfl⟩
 have l7:¬ x.1.toNat=102:=of_decide_eq_false hb7.symm
 refine sU<|sC ?_
 obtain ⟨b8,hb8⟩:∃ t_:Bool,t_=decide (x.1.toNat=103):=⟨_,rfl⟩
 refine sp rfl<|sS (.bool b8) (Quiet.pure (exec_int .eql _ _ _ .u8 _ _ _ rfl rfl rfl (int_eql _ _ _ _ _ (by rw [hb8]; exact decide_eq_decide.2 (by omega)))))<|sp rfl ?_
 refine sG ?_
 cases b8
 case' true =>
  have l8:x.1.toNat=103:=of_decide_eq_true hb8.symm
  refine sT<|sC ?_
  refine sp rfl<|sP (.func (.func 94) #[ptr g] #[])<|sP (.int .i64 2)<|sp rfl ?_
  refine sG<|Sy.ret<|Sy.in_ret<|Sy.then_ret ?_
  have e1:needs x=2:=by unfold needs; rw [l8]; rfl
  have e2:fnOf x.1=94:=by unfold fnOf; rw [l8]; rfl
  exact Sy.retT2 _ rfl (.inl (show _=some (.int .i64 ((2:Nat):Int)) by kernel_rfl)) (.inl (show _=some (.func (.func 94) #[ptr g] #[]) by kernel_rfl)) (λ_ h=>h) ⟨by rw [e1,e2],rfl⟩
 have l8:¬ x.1.toNat=103:=of_decide_eq_false hb8.symm
 refine sU<|sC ?_
 obtain ⟨b9,hb9⟩:∃ t_:Bool,t_=decide (x.1.toNat=104):=⟨_,rfl⟩
 refine sp rfl<|sS (.bool b9) (Quiet.pure (exec_int .eql _ _ _ .u8 _ _ _ rfl rfl rfl (int_eql _ _ _ _ _ (by rw [hb9]; exact decide_eq_decide.2 (by omega)))))<|sp rfl ?_
 refine sG ?_
 cases b9
 case' true =>
  have l9:x.1.toNat=104:=of_decide_eq_true hb9.symm
  refine sT<|sC ?_
  have hl2:x.2.length=2:=by
   have h1:okO x:=hok
   unfold okO follow at h1
   rw [if_neg l0,if_pos l9] at h1
   exact (Option.some.inj h1).symm
  obtain ⟨rA,rn,rc,rfl,r2,r3,r4,r5⟩:=hr
  obtain ⟨go,oo,rfl,rq⟩:=r5 (by intro e; rw [e] at hl2; cases hl2)
  obtain ⟨u0,u1,hu⟩:=len2 hl2
  have hu1:x.2[1]? = some u1:=by rw [hu]; rfl
  have hc1:=u1.toNat_lt
  refine sp rfl<|sp rfl<|sP (.pointer (some ⟨g,34,Option.none⟩))<|sS (.slice (some ⟨go,oo,Option.none⟩) rn rc) (Quiet.cell 0 g 34 62 39 _ _ _ rfl kR rfl Tryz.underlying39 rfl _ (mcs_r hm))<|sS (.pointer (some ⟨go,oo+1*1,Option.none⟩)) (Quiet.pure (exec_at 39 5 _ _ go oo rn rc 1 1 .i64 rfl rfl rfl Tryz.underlying39 kF (by omega)))<|sS (bv u1) (cellC (R:=T) (rq 1 u1 hu1) (λb hb=>List.mem_append_right _ (List.mem_append_right _ hb)) rfl Tryz.underlying5)<|sS (.int .i64 ((u1.toNat:Nat):Int)) (Quiet.pure (λw=>conv_8i w _ _ _ u1 rfl rfl))<|sS (.int .i64 ((2*u1.toNat:Nat):Int)) (Quiet.pure (exec_int .mul _ _ _ .i64 _ _ _ rfl rfl rfl (int_mul _ _ _ _ _ ((wrap_i64 (by omega) (by omega)).trans (by omega)))))<|sp rfl<|sP (.func (.func 95) #[ptr g] #[])<|sp rfl<|sp rfl ?_
  refine sG<|Sy.ret<|Sy.in_ret<|Sy.then_ret ?_
  have e1:needs x=2*u1.toNat:=by unfold needs; rw [l9,hu]; rfl
  have e2:fnOf x.1=95:=by unfold fnOf; rw [l9]; rfl
  exact Sy.retT2 _ rfl (.inl (show _=some (.int .i64 ((2*u1.toNat:Nat):Int)) by kernel_rfl)) (.inl (show _=some (.func (.func 95) #[ptr g] #[]) by kernel_rfl)) (λ_ h=>h) ⟨by rw [e1,e2],rfl⟩
 have l9:¬ x.1.toNat=104:=of_decide_eq_false hb9.symm
 refine sU<|sC ?_
 obtain ⟨b10,hb10⟩:∃ t_:Bool,t_=decide (x.1.toNat=105):=⟨_,rfl⟩
 refine sp rfl<|sS (.bool b10) (Quiet.pure (exec_int .eql _ _ _ .u8 _ _ _ rfl rfl rfl (int_eql _ _ _ _ _ (by rw [hb10]; exact decide_eq_decide.2 (by omega)))))<|sp rfl ?_
 refine sG ?_
 cases b10
 case' true =>
  have l10:x.1.toNat=105:=of_decide_eq_true hb10.symm
  refine sT<|sC ?_
  refine sp rfl<|sP (.func (.func 96) #[ptr g] #[])<|sP (.int .i64 1)<|sp rfl ?_
  refine sG<|Sy.ret<|Sy.in_ret<|Sy.then_ret ?_
  have e1:needs x=1:=by unfold needs; rw [l10]; rfl
  have e2:fnOf x.1=96:=by unfold fnOf; rw [l10]; rfl
  exact Sy.retT2 _ rfl (.inl (show _=some (.int .i64 ((1:Nat):Int)) by kernel_rfl)) (.inl (show _=some (.func (.func 96) #[ptr g] #[]) by kernel_rfl)) (λ_ h=>h) ⟨by rw [e1,e2],rfl⟩
 have l10:¬ x.1.toNat=105:=of_decide_eq_false hb10.symm
 refine sU<|sC ?_
 obtain ⟨b11,hb11⟩:∃ t_:Bool,t_=decide (x.1.toNat=106):=⟨_,rfl⟩
 refine sp rfl<|sS (.bool b11) (Quiet.pure (exec_int .eql _ _ _ .u8 _ _ _ rfl rfl rfl (int_eql _ _ _ _ _ (by rw [hb11]; exact decide_eq_decide.2 (by omega)))))<|sp rfl ?_
 refine sG ?_
 cases b11
 case' true =>
  have l11:x.1.toNat=106:=of_decide_eq_true hb11.symm
  refine sT<|sC ?_
  refine sp rfl<|sP (.func (.func 97) #[ptr g] #[])<|sP (.int .i64 1)<|sp rfl ?_
  refine sG<|Sy.ret<|Sy.in_ret<|Sy.then_ret ?_
  have e1:needs x=1:=by unfold needs; rw [l11]; rfl
  have e2:fnOf x.1=97:=by unfold fnOf; rw [l11]; rfl
  exact Sy.retT2 _ rfl (.inl (show _=some (.int .i64 ((1:Nat):Int)) by kernel_rfl)) (.inl (show _=some (.func (.func 97) #[ptr g] #[]) by kernel_rfl)) (λ_ h=>h) ⟨by rw [e1,e2],rfl⟩
 have l11:¬ x.1.toNat=106:=of_decide_eq_false hb11.symm
 refine sU<|sC ?_
 obtain ⟨b12,hb12⟩:∃ t_:Bool,t_=decide (x.1.toNat=107):=⟨_,rfl⟩
 refine sp rfl<|sS (.bool b12) (Quiet.pure (exec_int .eql _ _ _ .u8 _ _ _ rfl rfl rfl (int_eql _ _ _ _ _ (by rw [hb12]; exact decide_eq_decide.2 (by omega)))))<|sp rfl ?_
 refine sG ?_
 cases b12
 case' true =>
  have l12:x.1.toNat=107:=of_decide_eq_true hb12.symm
  refine sT<|sC ?_
  refine sp rfl<|sP (.func (.func 98) #[ptr g] #[])<|sP (.int .i64 0)<|sp rfl ?_
  refine sG<|Sy.ret<|Sy.in_ret<|Sy.then_ret ?_
  have e1:needs x=0:=by unfold needs; rw [l12]; rfl
  have e2:fnOf x.1=98:=by unfold fnOf; rw [l12]; rfl
  exact Sy.retT2 _ rfl (.inl (show _=some (.int .i64 ((0:Nat):Int)) by kernel_rfl)) (.inl (show _=some (.func (.func 98) #[ptr g] #[]) by kernel_rfl)) (λ_ h=>h) ⟨by rw [e1,e2],rfl⟩
 have l12:¬ x.1.toNat=107:=of_decide_eq_false hb12.symm
 refine sU ?_
 have l13:x.1.toNat=108:=by
  have h1:okO x:=hok
  unfold okO follow at h1
  rw [if_neg l0,if_neg l9] at h1
  split at h1
  ·omega
  ·cases h1
 refine Sy.skip<|Sy.in_<|Sy.then_<|sC ?_
 refine sp rfl<|sP (.func (.func 99) #[ptr g] #[])<|sP (.int .i64 0)<|sp rfl ?_
 refine sG<|Sy.ret ?_
 have e1:needs x=0:=by unfold needs; rw [l13]; rfl
 have e2:fnOf x.1=99:=by unfold fnOf; rw [l13]; rfl
 exact Sy.retT2 _ rfl (.inl (show _=some (.int .i64 ((0:Nat):Int)) by kernel_rfl)) (.inl (show _=some (.func (.func 99) #[ptr g] #[]) by kernel_rfl)) (λ_ h=>h) ⟨by rw [e1,e2],rfl⟩
end Pg
end
section
namespace Pg
open Go.RowKit Sy
set_option maxRecDepth 100000
set_option maxHeartbeats 4000000
open Wr
noncomputable def infSl:TypeInfo:=(Tryz.prog.info? 39).getD default
theorem info_sl:Tryz.prog.info? 39=some infSl:=by kernel_rfl
def stE (E:Env) (x:Opn) (st:List Byt):Nat :=
 if st.length<needs x then 132
 else if (does E x (st.drop (st.length - needs x))).1≠0 then (does E x (st.drop (st.length - needs x))).1
 else if 32<(st.take (st.length - needs x)++(does E x (st.drop (st.length - needs x))).2).length then 132 else 0
def stS (E:Env) (x:Opn) (st:List Byt):List Byt:=st.take (st.length - needs x)++(does E x (st.drop (st.length - needs x))).2
def stK (x:Opn) (st:List Byt):Nat:=skp x (st.drop (st.length - needs x))
theorem exec_go (E:Env) (x:Opn) (os:List Opn) (st:List Byt):exec E (x::os) st 0=if stE E x st≠0 then stE E x st else exec E os (stS E x st) (stK x st):=by
 have e:exec E (x::os) st 0=if st.length<needs x then 132
  else if (does E x (st.drop (st.length - needs x))).1≠0 then (does E x (st.drop (st.length - needs x))).1
  else if 32<(st.take (st.length - needs x)++(does E x (st.drop (st.length - needs x))).2).length then 132
  else exec E os (st.take (st.length - needs x)++(does E x (st.drop (st.length - needs x))).2) (skp x (st.drop (st.length - needs x))):=by
  conv=>lhs; unfold exec
  rw [if_neg (Nat.lt_irrefl 0)]
 rw [e]
 unfold stE stS stK
 by_cases h1:st.length<needs x
 ·rw [if_pos h1,if_pos h1,if_pos (by decide)]
 ·rw [if_neg h1,if_neg h1]
  by_cases h2:(does E x (st.drop (st.length - needs x))).1≠0
  ·rw [if_pos h2,if_pos h2,if_pos h2]
  ·rw [if_neg h2,if_neg h2]
   by_cases h3:32<(st.take (st.length - needs x)++(does E x (st.drop (st.length - needs x))).2).length
   ·rw [if_pos h3,if_pos h3,if_pos (by decide)]
   ·rw [if_neg h3,if_neg h3,if_neg (by decide)]
theorem does_len (E:Env) (x:Opn) (l:List Byt):(does E x l).2.length≤2:=by
 unfold does
 dsimp only
 split <;> (try split) <;> simp
theorem does_err (E:Env) (x:Opn) (l:List Byt):(does E x l).1≤136:=by
 unfold does
 dsimp only
 split <;> (try split) <;> simp
def SpR (E:Env) (x:Opn) (w0:Base) (g:Nat) (m:Byt) (T:Blocks) (st:List Byt) (v:Value) (M:Blocks):Prop :=
 ∃ s' r' k' N zs',v=.int .i64 ((stE E x st:Nat):Int)∧M=MS g s' m E.h r' k' (T++N)∧(stE E x st=0→k'=stK x st∧StkY (rdC w0 (T++N)) s' zs'∧zs'.map (·.2)=stS E x st)
theorem step_any {Tb:World→Prop} (E:Env) (m:Byt) (hm:m.length=32) (x:Opn) (hok:okO x) (hE:EfC Tb E m x (fnOf x.1)) (hh:E.h<18446744073709551616) (w0:Base) (hT:Tb w0.world) (g:Nat) (s:Slc) (r0 vr:Value) (T:Blocks) (zs:List (Value×Byt)) (hs:StkY (rdC w0 T) s zs) (hz:zs.length≤32) (hvr:BytR (rdC w0 T) vr x.2) (w:World) (hw:St w0 w (MS g s m E.h r0 0 T)) :
  Calls Tryz.prog 40 #[ptr g,.agg #[bv x.1,vr]] w (Turns w0 (SpR E x w0 g m T (zs.map (·.2)))):=by
 refine Sy.enterT (args:=[ptr g,.agg #[bv x.1,vr]]) hw Tryz.func40 rfl kL ?_
 have hn9:needs x≤512:=by
  unfold needs
  have:=(x.2.getD 1 0).toNat_lt
  repeat' split
  all_goals omega
 obtain ⟨vA,vn,vc,rfl,v2,v3,v4,v5⟩:=hvr
 have hvr:BytR (rdC w0 T) (.slice vA vn vc) x.2:=⟨_,_,_,rfl,v2,v3,v4,v5⟩
 obtain ⟨n,hn⟩:∃ n,n=zs.length:=⟨_,rfl⟩
 obtain ⟨st,hst⟩:∃ st,st=zs.map (·.2):=⟨_,rfl⟩
 have hsl:st.length=n:=by rw [hst,List.length_map,hn]
 rw [← hst]
 refine sC ?_
 refine sM 85 #[bv x.1,.slice vA vn vc] (λg3=>?_)
 obtain ⟨T1,hT1⟩:∃ T1,T1=T++[(g3,85,#[bv x.1,.slice vA vn vc])]:=⟨_,rfl⟩
 refine Sy.permS (M:=MS g s m E.h r0 0 T1) (by rw [hT1]; exact (Sy.flat_perm (ls:=[[(g,62,(mcs s.v m E.h r0 0).toArray)],s.bl,T,[(g3,85,#[bv x.1,.slice vA vn vc])]]) (ms:=[[(g,62,(mcs s.v m E.h r0 0).toArray)],s.bl,T,[(g3,85,#[bv x.1,.slice vA vn vc])]]) [0,1,2,3] kR rfl (by simp) (by simp))) ?_
 have hTT:∀ b∈T,b∈T1:=λb hb=>by rw [hT1]; exact List.mem_append_left _ hb
 have h3:(g3,85,#[bv x.1,.slice vA vn vc])∈T1:=by rw [hT1]; simp
 have hs1:=hs.le (rdC_le (w0:=w0) hTT)
 have hvr1:=hvr.le (rdC_le (w0:=w0) hTT)
 have c0:rdC w0 T1 g3 0 (bv x.1):=.inr ⟨_,_,h3,rfl⟩
 have c1:rdC w0 T1 g3 1 (.slice vA vn vc):=.inr ⟨_,_,h3,rfl⟩
 refine sP (.int .i64 0) ?_
 refine sA ?_
 refine sp rfl<|sP (.pointer (some ⟨g3,1,none⟩))<|sS (.slice vA vn vc) (cellC (R:=T1) c1 (λb hb=>List.mem_append_right _ (List.mem_append_right _ hb)) rfl Tryz.underlying39)<|sp rfl<|sP (.pointer (some ⟨g,34,none⟩))<|sw 0 rfl (mcs s.v m E.h (.slice vA vn vc) 0).toArray (Writes.one 34 39 (.slice vA vn vc) _ _ rfl kR kR kR rfl rfl (by rw [List.size_toArray,mcs_len hm]; decide) (mcs_setr hm _)) ?_
 refine Sy.permS (M:=MS g s m E.h (.slice vA vn vc) 0 T1) (List.Perm.of_eq rfl) ?_
 refine sA ?_
 refine sp rfl<|sP (.pointer (some ⟨g3,0,none⟩))<|sS (bv x.1) (cellC (R:=T1) c0 (λb hb=>List.mem_append_right _ (List.mem_append_right _ hb)) rfl Tryz.underlying5) ?_
 refine Sy.callT (λw hw=>choose_any w0.inn g s m hm E.h 0 (.slice vA vn vc) T1 x hok hvr1 w hw) (λv M hM=>?_)
 obtain ⟨rfl,rfl⟩:=hM
 refine sp rfl<|sp rfl<|sp rfl<|sp rfl<|sp rfl ?_
 refine sA ?_
 obtain ⟨k,hk⟩:∃ k,k=needs x:=⟨_,rfl⟩
 rw [← hk]
 obtain ⟨b1,hb1⟩:∃ z:Bool,z=decide (n<k):=⟨_,rfl⟩
 refine sp rfl<|sp rfl<|sP (.pointer (some ⟨g,0,none⟩))<|sS s.v (qc 0 0 rfl rfl Tryz.underlying25)<|sS (.int .i64 (n:Int)) (Quiet.lenR hs.row (by rw [List.length_map,hn]) _ Tryz.underlying25 rfl rfl)<|sp rfl ?_
 cases b1
 case' true =>
  have l1:n<k:=of_decide_eq_true hb1.symm
  refine sS (.int .i64 ((n:Int) - (k:Int))) (Quiet.pure (exec_int .sub _ _ _ .i64 _ _ _ rfl rfl rfl (int_sub _ _ _ _ _ (wrap_i64 (by omega) (by omega)))))<|sp rfl ?_
  refine sG<|Sy.seq<|sC ?_
  refine sp rfl<|sS (.bool true) (Quiet.pure (exec_int .lss _ _ _ .i64 _ _ _ rfl rfl rfl (int_lss _ _ _ _ _ (decide_eq_true (by omega))))) ?_
  refine sG<|sT<|sC ?_
  refine sP (.int .i64 132) ?_
  refine sG<|Sy.ret<|Sy.then_ret ?_
  have e1:stE E x st=132:=by unfold stE; rw [if_pos (by omega)]
  exact Sy.retT1 _ rfl (.inl (show _=some (.int .i64 132) by kernel_rfl)) (λ_ h=>h) ⟨s,_,0,[(g3,85,#[bv x.1,.slice vA vn vc])],zs,by rw [e1]; rfl,by rw [← hT1],λh=>by rw [e1] at h; cases h⟩
 have l1:¬ n<k:=of_decide_eq_false hb1.symm
 obtain ⟨j,hj⟩:∃ j,j=n - k:=⟨_,rfl⟩
 refine sS (.int .i64 ((j:Nat):Int)) (Quiet.pure (exec_int .sub _ _ _ .i64 _ _ _ rfl rfl rfl (int_sub _ _ _ _ _ ((wrap_i64 (by omega) (by omega)).trans (by omega)))))<|sp rfl ?_
 refine sG<|Sy.seq<|sC ?_
 refine sp rfl<|sS (.bool false) (Quiet.pure (exec_int .lss _ _ _ .i64 _ _ _ rfl rfl rfl (int_lss _ _ _ _ _ (decide_eq_false (by omega))))) ?_
 refine sG<|sU<|Sy.skip<|Sy.then_<|sC ?_
 obtain ⟨sA_,sc,sv_,sv2,sarg⟩:=Slc_arg hs1
 rw [← hn] at sv_
 have harg:=sarg j (by omega)
 rw [← hn] at harg
 refine sp rfl<|sp rfl<|sp rfl<|sP (.pointer (some ⟨g,0,none⟩))<|sS (.slice sA_ n sc) (by rw [← sv_]; exact qc 0 0 rfl rfl Tryz.underlying25)<|sp rfl<|sS (sliced sA_ j n sc 1) (Quiet.pure (exec_fromT 25 39 _ _ sA_ n sc j Tryz.underlying25 kF rfl rfl rfl (by omega))) ?_
 have hef:=hE w0.inn g s (.slice vA vn vc) T1 (sliced sA_ j n sc 1) (zs.drop j) hT hok (λz hz=>hs1.sm z (List.mem_of_mem_drop hz)) hvr1 (by rw [List.length_drop]; omega) harg
 have hmd:(zs.drop j).map (·.2)=st.drop j:=by rw [hst,List.map_drop]
 rw [hmd] at hef
 refine Sy.callT hef (λv M hM=>?_) (exec_callF rfl rfl rfl (fnOf_enters x.1))
 obtain ⟨y,N,ys,rfl,rfl,hy,hys⟩:=hM
 have hstd:st.drop (st.length - needs x)=st.drop j:=by rw [hsl, ← hk,hj]
 have hde:=does_err E x (st.drop j)
 obtain ⟨e,he⟩:∃ e,e=(does E x (st.drop j)).1:=⟨_,rfl⟩
 rw [← he] at hde ⊢
 obtain ⟨T2,hT2⟩:∃ T2,T2=y.bl++(T1++N):=⟨_,rfl⟩
 obtain ⟨N2,hN2⟩:∃ N2,N2=[(g3,85,#[bv x.1,.slice vA vn vc])]++(N++y.bl):=⟨_,rfl⟩
 have hp2:T2.Perm (T++N2):=by rw [hT2,hN2,hT1]; exact (Sy.flat_perm (ls:=[y.bl,T,[(g3,85,#[bv x.1,.slice vA vn vc])],N]) (ms:=[T,[(g3,85,#[bv x.1,.slice vA vn vc])],N,y.bl]) [1,2,3,0] kR rfl (by simp) (by simp))
 refine sp rfl<|sp rfl<|sp rfl<|sp rfl<|sp rfl ?_
 refine sG<|Sy.seq<|sC ?_
 obtain ⟨b2,hb2⟩:∃ t_:Bool,t_=decide (e≠0):=⟨_,rfl⟩
 refine sp rfl<|sS (.bool b2) (Quiet.pure (exec_int .neq _ _ _ .i64 _ _ _ rfl rfl rfl (int_neq _ _ _ _ _ (by rw [hb2]; exact decide_eq_decide.2 (by omega))))) ?_
 refine sG ?_
 cases b2
 case' true =>
  have l2:e≠0:=of_decide_eq_true hb2.symm
  refine sT<|sC ?_
  refine sp rfl<|sp rfl ?_
  refine sG<|Sy.ret<|Sy.then_ret ?_
  have e1:stE E x st=e:=by unfold stE; rw [if_neg (by omega),hstd, ← he,if_pos l2]
  exact Sy.retT1 (MS g s m E.h (.slice vA vn vc) (skp x (st.drop j)) (T++N2)) rfl (.inl (show _=some (.int .i64 ((e:Nat):Int)) by kernel_rfl)) (λ_ h=>h.perm (by rw [← hT2]; exact (hp2.append_left _).append_left _)) ⟨s,_,_,N2,zs,by rw [e1],rfl,λh=>by rw [e1] at h; exact absurd h l2⟩
 have l2:e=0:=by
  have:=of_decide_eq_false hb2.symm
  omega
 refine sU<|Sy.skip<|Sy.then_<|sC ?_
 have hyl:=does_len E x (st.drop j)
 rw [← hys,List.length_map] at hyl
 obtain ⟨y0,hy0,hyi,hyx⟩:=Slc_cut hs.row (j:=j) (by rw [List.length_map]; omega)
 obtain ⟨yA,yc,yv,yl,yf⟩:=Slc_from (w0:=w0.inn) (L:=[(g,62,(mcs s.v m E.h (.slice vA vn vc) (skp x (st.drop j))).toArray)]++(y.bl++(T1++N))) hy.row (λb hb=>List.mem_append_right _ (List.mem_append_left _ hb))
 rw [List.length_map] at yv yl
 refine sp rfl<|sp rfl<|sp rfl<|sP (.pointer (some ⟨g,0,none⟩))<|sS s.v (qc 0 0 rfl rfl Tryz.underlying25)<|sp rfl<|sS y0.v (Quiet.pure (hyx 25 _ _ Tryz.underlying25 kF rfl rfl rfl))<|sS (.slice yA ys.length yc) (by rw [← yv]; exact Quiet.pure (opV_run rfl)) ?_
 refine Sy.permS (M:=[(g,62,(mcs s.v m E.h (.slice vA vn vc) (skp x (st.drop j))).toArray)]++(y0.bl++(y.bl++(T1++N)))) (List.Perm.of_eq (by rw [hy0])) ?_
 refine Sy.appendM kR 25 39 _ _ 1 24 Tryz.underlying25 info_sl rfl rfl rfl rfl (by decide) _ _ rfl hyi kR hy.row.len hy.row.one yA ys.length yc (by rw [List.length_map]) yl kR (λr=>(Slc_from (w0:=w0.inn) hy.row (λb hb=>List.mem_append_right _ (List.mem_append_right _ (List.mem_append_left _ hb)))).elim λA' h=>h.elim λc' h=>by
  have e1:Value.slice yA ys.length yc=.slice A' (ys.map λz=>[z.1]).length c':=yv.symm.trans h.1
  injection e1 with e1 _ _
  rw [e1]; exact h.2.2) (by rw [List.length_take,List.length_map]; omega) (by rw [List.length_take,List.length_map]; simp only [maxLen]; omega) (λs2 hs2=>?_)
 refine sp rfl<|sP (.pointer (some ⟨g,0,none⟩))<|sw 0 rfl (mcs s2.v m E.h (.slice vA vn vc) (skp x (st.drop j))).toArray (Writes.one 0 25 s2.v _ _ rfl kR kR kR hs2.cells.1 hs2.cells.2 (by rw [List.size_toArray,mcs_len hm]; decide) rfl) ?_
 obtain ⟨zs2,hz2⟩:∃ zs2,zs2=zs.take j++ys:=⟨_,rfl⟩
 have hs2':s2.Is 39 1 (zs2.map λz=>[z.1]):=by
  rw [hz2,List.map_append,List.map_take]; exact hs2
 have hst2:zs2.map (·.2)=stS E x st:=by
  unfold stS
  rw [hstd, ← hys,hz2,List.map_append,List.map_take, ← hst,hsl, ← hk,hj]
 have hzl:zs2.length=(stS E x st).length:=by rw [← hst2,List.length_map]
 have hz3:zs2.length≤34:=by rw [hz2,List.length_append,List.length_take]; omega
 refine Sy.permS (M:=MS g s2 m E.h (.slice vA vn vc) (skp x (st.drop j)) (y.bl++(T1++N))) (List.Perm.of_eq rfl) ?_
 refine sG<|Sy.seq<|sC ?_
 obtain ⟨b3,hb3⟩:∃ t_:Bool,t_=decide (32<zs2.length):=⟨_,rfl⟩
 refine sp rfl<|sp rfl<|sP (.pointer (some ⟨g,0,none⟩))<|sS s2.v (qc 0 0 rfl rfl Tryz.underlying25)<|sS (.int .i64 ((zs2.length:Nat):Int)) (Quiet.lenR hs2' (by rw [List.length_map]) _ Tryz.underlying25 rfl rfl)<|sS (.bool b3) (Quiet.pure (exec_int .gtr _ _ _ .i64 _ _ _ rfl rfl rfl (int_gtr _ _ _ _ _ (by rw [hb3]; exact decide_eq_decide.2 (by omega))))) ?_
 refine sG ?_
 cases b3
 case' true =>
  have l3:32<zs2.length:=of_decide_eq_true hb3.symm
  refine sT<|sC ?_
  refine sP (.int .i64 132) ?_
  refine sG<|Sy.ret<|Sy.then_ret ?_
  have e1:stE E x st=132:=by
   have h9:32<(stS E x st).length:=by omega
   unfold stS at h9
   unfold stE; rw [if_neg (by omega),hstd, ← he,if_neg (by omega)]
   rw [hstd] at h9
   rw [if_pos h9]
  exact Sy.retT1 (MS g s2 m E.h (.slice vA vn vc) (skp x (st.drop j)) (T++N2)) rfl (.inl (show _=some (.int .i64 132) by kernel_rfl)) (λ_ h=>h.perm (by rw [← hT2]; exact (hp2.append_left _).append_left _)) ⟨s2,_,_,N2,zs,by rw [e1]; rfl,rfl,λh=>by rw [e1] at h; cases h⟩
 have l3:¬ 32<zs2.length:=of_decide_eq_false hb3.symm
 refine sU<|Sy.skip<|Sy.then_<|sC ?_
 refine sP (.int .i64 0) ?_
 refine sG<|Sy.ret ?_
 have e1:stE E x st=0:=by
  have h9:¬ 32<(stS E x st).length:=by omega
  unfold stS at h9
  unfold stE; rw [if_neg (by omega),hstd, ← he,if_neg (by omega)]
  rw [hstd] at h9
  rw [if_neg h9]
 have hle:∀ b∈T1++N,b∈T++N2:=λb hb=>hp2.subset (by rw [hT2]; exact List.mem_append_right _ hb)
 exact Sy.retT1 (MS g s2 m E.h (.slice vA vn vc) (skp x (st.drop j)) (T++N2)) rfl (.inl (show _=some (.int .i64 0) by kernel_rfl)) (λ_ h=>h.perm (by rw [← hT2]; exact (hp2.append_left _).append_left _)) ⟨s2,_,_,N2,zs2,by rw [e1]; rfl,rfl,λ_=>⟨by unfold stK; rw [hstd],⟨hs2',λz hz=>by
  rw [hz2] at hz
  rcases List.mem_append.1 hz with hz | hz
  ·exact (hs1.byt z (List.mem_of_mem_take hz)).le (rdC_le (λb hb=>hle b (List.mem_append_left _ hb)))
  ·exact (hy.byt z hz).le (rdC_le hle),λz hz=>by
  rw [hz2] at hz
  rcases List.mem_append.1 hz with hz | hz
  ·exact hs1.sm z (List.mem_of_mem_take hz)
  ·exact hy.sm z hz⟩,hst2⟩⟩
end Pg
end
section
namespace Pg
open Go.RowKit Sy
set_option maxRecDepth 100000
set_option maxHeartbeats 4000000
open Wr
theorem skip_any (w0:Base) (g:Nat) (s:Slc) (m:Byt) (hm:m.length=32) (h k:Nat) (hk0:0<k) (hk1:k≤100000) (r:Value) (T:Blocks) (c:UInt8) (w:World) (hw:St w0 w (MS g s m h r k T)):Calls Tryz.prog 39 #[ptr g,bv c] w (Turns w0 (λ_ M=>M=MS g s m h r (pas c k) T)):=by
 have hc:=c.toNat_lt
 refine Sy.enterT (args:=[ptr g,bv c]) hw Tryz.func39 rfl kL ?_
 refine Sy.block<|sC ?_
 obtain ⟨b1,hb1⟩:∃ t_:Bool,t_=decide (c.toNat=106):=⟨_,rfl⟩
 refine sp rfl<|sS (.bool b1) (Quiet.pure (exec_int .eql _ _ _ .u8 _ _ _ rfl rfl rfl (int_eql _ _ _ _ _ (by rw [hb1]; exact decide_eq_decide.2 (by omega)))))<|sp rfl ?_
 refine sG ?_
 cases b1
 case' true =>
  have l1:c.toNat=106:=of_decide_eq_true hb1.symm
  refine sT<|Sy.region ?_
  refine sp rfl<|sp rfl<|sP (.pointer (some ⟨g,35,none⟩))<|sS (.int .i64 ((k:Nat):Int)) (Quiet.cell 0 g 35 62 3 _ _ _ rfl kR rfl Tryz.underlying3 rfl _ (mcs_k hm))<|sS (.int .i64 ((k+1:Nat):Int)) (Quiet.pure (exec_int .add _ _ _ .i64 _ _ _ rfl rfl rfl (int_add _ _ _ _ _ ((wrap_i64 (by omega) (by omega)).trans (by omega)))))<|sp rfl<|sP (.pointer (some ⟨g,35,none⟩))<|sw 0 rfl (mcs s.v m h r (k+1)).toArray (Writes.one 35 3 (.int .i64 ((k+1:Nat):Int)) _ _ rfl kR kR kR rfl rfl (by rw [List.size_toArray,mcs_len hm]; decide) (mcs_setk hm _)) ?_
  refine Sy.nil<|Sy.in_ ?_
  exact Sy.retT0 rfl (MS g s m h r (k+1) T) (λ_ h=>h) (λ_=>by unfold pas; rw [if_pos l1])
 have l1:¬ c.toNat=106:=of_decide_eq_false hb1.symm
 refine sU<|sC ?_
 obtain ⟨b2,hb2⟩:∃ t_:Bool,t_=decide (c.toNat=108):=⟨_,rfl⟩
 refine sp rfl<|sS (.bool b2) (Quiet.pure (exec_int .eql _ _ _ .u8 _ _ _ rfl rfl rfl (int_eql _ _ _ _ _ (by rw [hb2]; exact decide_eq_decide.2 (by omega)))))<|sp rfl ?_
 refine sG ?_
 cases b2
 case' true =>
  have l2:c.toNat=108:=of_decide_eq_true hb2.symm
  refine sT<|Sy.region ?_
  refine sp rfl<|sp rfl<|sP (.pointer (some ⟨g,35,none⟩))<|sS (.int .i64 ((k:Nat):Int)) (Quiet.cell 0 g 35 62 3 _ _ _ rfl kR rfl Tryz.underlying3 rfl _ (mcs_k hm))<|sS (.int .i64 ((k - 1:Nat):Int)) (Quiet.pure (exec_int .sub _ _ _ .i64 _ _ _ rfl rfl rfl (int_sub _ _ _ _ _ ((wrap_i64 (by omega) (by omega)).trans (by omega)))))<|sp rfl<|sP (.pointer (some ⟨g,35,none⟩))<|sw 0 rfl (mcs s.v m h r (k - 1)).toArray (Writes.one 35 3 (.int .i64 ((k - 1:Nat):Int)) _ _ rfl kR kR kR rfl rfl (by rw [List.size_toArray,mcs_len hm]; decide) (mcs_setk hm _)) ?_
  refine Sy.nil<|Sy.in_ ?_
  exact Sy.retT0 rfl (MS g s m h r (k - 1) T) (λ_ h=>h) (λ_=>by unfold pas; rw [if_neg l1,if_pos l2])
 have l2:¬ c.toNat=108:=of_decide_eq_false hb2.symm
 refine sU<|sC ?_
 obtain ⟨b3,hb3⟩:∃ t_:Bool,t_=decide (c.toNat=107):=⟨_,rfl⟩
 refine sp rfl<|sS (.bool b3) (Quiet.pure (exec_int .eql _ _ _ .u8 _ _ _ rfl rfl rfl (int_eql _ _ _ _ _ (by rw [hb3]; exact decide_eq_decide.2 (by omega)))))<|sp rfl ?_
 cases b3
 case' false =>
  have l3:¬ c.toNat=107:=of_decide_eq_false hb3.symm
  refine sN<|sN<|sN<|sN<|sN<|sP (.bool false)<|sp rfl ?_
  refine sG<|sU<|Sy.skip<|Sy.in_ ?_
  exact Sy.retT0 rfl (MS g s m h r k T) (λ_ h=>h) (λ_=>by unfold pas; rw [if_neg l1,if_neg l2,if_neg (λh=>l3 h.1)])
 have l3:c.toNat=107:=of_decide_eq_true hb3.symm
 obtain ⟨b4,hb4⟩:∃ t_:Bool,t_=decide (k=1):=⟨_,rfl⟩
 refine sp rfl<|sp rfl<|sP (.pointer (some ⟨g,35,none⟩))<|sS (.int .i64 ((k:Nat):Int)) (Quiet.cell 0 g 35 62 3 _ _ _ rfl kR rfl Tryz.underlying3 rfl _ (mcs_k hm))<|sS (.bool b4) (Quiet.pure (exec_int .eql _ _ _ .i64 _ _ _ rfl rfl rfl (int_eql _ _ _ _ _ (by rw [hb4]; exact decide_eq_decide.2 (by omega)))))<|sP (.bool b4)<|sp rfl ?_
 refine sG ?_
 cases b4
 case' false =>
  have l4:¬ k=1:=of_decide_eq_false hb4.symm
  refine sU<|Sy.skip<|Sy.in_ ?_
  exact Sy.retT0 rfl (MS g s m h r k T) (λ_ h=>h) (λ_=>by unfold pas; rw [if_neg l1,if_neg l2,if_neg (λh=>l4 h.2)])
 have l4:k=1:=of_decide_eq_true hb4.symm
 refine sT<|Sy.region ?_
 refine sp rfl<|sp rfl<|sP (.pointer (some ⟨g,35,none⟩))<|sw 0 rfl (mcs s.v m h r (0)).toArray (Writes.one 35 3 (.int .i64 ((0:Nat):Int)) _ _ rfl kR kR kR rfl rfl (by rw [List.size_toArray,mcs_len hm]; decide) (mcs_setk hm _)) ?_
 refine Sy.nil<|Sy.in_ ?_
 exact Sy.retT0 rfl (MS g s m h r 0 T) (λ_ h=>h) (λ_=>by unfold pas; rw [if_neg l1,if_neg l2,if_pos ⟨l3,l4⟩])
theorem opL_flat_at (xs:List (Value×Opn)) (rr:List Value) (i:Nat) (z:Value×Opn) (hz:xs[i]? = some z):(((opL xs).flatten++rr).drop (i*2)).take 2=[bv z.2.1,z.1]:=by
 refine flat_at' rr (λy hy=>?_) i _ ?_
 ·obtain ⟨u,_,rfl⟩:=List.mem_map.1 hy; rfl
 ·unfold opL; rw [List.getElem?_map,hz]; rfl
theorem OpsY.at {C:Rdr} {y:Slc} {xs:List (Value×Opn)} (h:OpsY C y xs):∃ A cp,y.v=.slice A xs.length cp∧cp≤maxLen∧∀ i z,xs[i]? = some z→∃ g,A=some ⟨g,0,none⟩∧XAt (rdB y.bl) g (0+i*2) [bv z.2.1,z.1]:=by
 rcases h.row.row with ⟨e1,e2⟩ | ⟨g,cap,rr,e2,h1,h2,h3⟩
 ·obtain rfl:xs=[]:=List.map_eq_nil_iff.1 e1
  exact ⟨none,0,by rw [e2]; rfl,Nat.zero_le _,λi z hz=>by cases hz⟩
 ·rw [opL_len] at h1 h2
  refine ⟨some ⟨g,0,none⟩,cap,by rw [e2,opL_len],h3,λi z hz=>⟨g,rfl,λj u hu=>⟨85,_,by rw [e2]; exact List.mem_singleton.2 rfl,?_⟩⟩⟩
  have q:=opL_flat_at xs rr i z hz
  rw [← q] at hu
  have hj:j<2:=by
   have:=(List.getElem?_eq_some_iff.1 hu).1
   rw [List.length_take] at this; omega
  rw [List.getElem?_take_of_lt hj,List.getElem?_drop] at hu
  rw [List.getElem?_toArray,Nat.zero_add]
  exact hu
structure RY where
 s:Slc
 r:Value
 k:Nat
 N:Blocks
 zs:List (Value×Byt)
structure RH (E:Env) (w0:Base) (T:Blocks) (os:List Opn) (q:Nat) (i:Nat) (z:RY):Prop where
 hs:StkY (rdC w0 (T++z.N)) z.s z.zs
 n1:z.zs.length≤32
 n2:z.k≤i
 e:q=exec E (os.drop i) (z.zs.map (·.2)) z.k
def RnR (g:Nat) (m:Byt) (h:Nat) (T:Blocks) (q:Nat) (v:Value) (M:Blocks):Prop:=∃ s' r' k' N,v=.int .i64 ((q:Nat):Int)∧M=MS g s' m h r' k' (T++N)
theorem exec_pas (E:Env) (x:Opn) (os:List Opn) (st:List Byt) (k:Nat) (h:0<k):exec E (x::os) st k=exec E os st (pas x.1 k):=by
 conv=>lhs; unfold exec
 rw [if_pos h]
theorem pas_le (c:UInt8) (k:Nat):pas c k≤k+1:=by
 unfold pas
 repeat' split
 all_goals omega
theorem stK_le (x:Opn) (st:List Byt):stK x st≤1:=by unfold stK skp; split <;> omega
theorem runs_any {Tb:World→Prop} (E:Env) (m:Byt) (hm:m.length=32) (hh:E.h<18446744073709551616) (w0:Base) (hT:Tb w0.world) (g:Nat) (s:Slc) (r:Value) (T:Blocks) (zs:List (Value×Byt)) (y:Slc) (xs:List (Value×Opn)) (hs:StkY (rdC w0 T) s zs) (hz:zs.length≤32) (hy:OpsY (rdC w0 T) y xs) (hyT:∀ b∈y.bl,b∈T) (hok:∀ z∈xs,okO z.2) (hE:∀ z∈xs,EfC Tb E m z.2 (fnOf z.2.1)) (hxl:xs.length≤256) (w:World) (hw:St w0 w (MS g s m E.h r 0 T)) :
  Calls Tryz.prog 21 #[ptr g,y.v] w (Turns w0 (RnR g m E.h T (exec E (xs.map (·.2)) (zs.map (·.2)) 0))):=by
 obtain ⟨A,cp,yv,ycp,yat⟩:=hy.at
 obtain ⟨n,hn⟩:∃ n,n=xs.length:=⟨_,rfl⟩
 obtain ⟨q0,hq0⟩:∃ q0,q0=exec E (xs.map (·.2)) (zs.map (·.2)) 0:=⟨_,rfl⟩
 rw [← hq0,yv, ← hn]
 refine Sy.enterT (args:=[ptr g,.slice A n cp]) hw Tryz.func21 rfl kL ?_
 refine sC ?_
 refine sP (.int .i64 0) ?_
 refine sG<|Sy.seq<|sC ?_
 refine sp rfl<|sP (.int .i64 (n:Int))<|sP (.int .i64 0) ?_
 refine sG<|Sy.block ?_
 refine Sy.loopT (Y:=RY) n (λi z=>[(0,ptr g),(8,.slice A n cp),(9,.int .i64 (n:Int)),(10,.int .i64 (i:Int))]) (λi z=>MS g z.s m E.h z.r z.k (T++z.N)) (RH E w0 T (xs.map (·.2)) q0) ⟨s,r,0,[],zs⟩ ⟨by rw [List.append_nil]; exact hs,hz,Nat.le_refl _,by rw [List.drop_zero]; exact hq0⟩ (all_cons kR (all_cons kR (all_cons kR (all_cons kR all_nil)))) (λw h=>by rw [List.append_nil]; exact h) (λi z hi hz=>?_)
 obtain ⟨s,r,k,N,zs⟩:=z
 obtain ⟨hs,n1,n2,he⟩:=hz
 dsimp only at hs n1 n2 he ⊢
 refine sC ?_
 obtain ⟨b2,hb2⟩:∃ t_:Bool,t_=decide (i<n):=⟨_,rfl⟩
 refine sS (.bool b2) (Quiet.pure (exec_int .lss _ _ _ .i64 _ _ _ rfl rfl rfl (int_lss _ _ _ _ _ (by rw [hb2]; exact decide_eq_decide.2 (by omega))))) ?_
 refine sG<|Sy.seq ?_
 cases b2
 case' false =>
  have l2:¬ i<n:=of_decide_eq_false hb2.symm
  obtain rfl:i=n:=by omega
  rw [List.drop_of_length_le (by rw [List.length_map]; omega)] at he
  refine sU<|Sy.exit<|Sy.then_exit<|Sy.then_exit<|Sy.in_exit<|Sy.then_<|Sy.seq<|sC ?_
  obtain ⟨b3,hb3⟩:∃ z:Bool,z=decide (zs.length≠1):=⟨_,rfl⟩
  refine sp rfl<|sp rfl<|sP (.pointer (some ⟨g,0,none⟩))<|sS s.v (qc 0 0 rfl rfl Tryz.underlying25)<|sS (.int .i64 ((zs.length:Nat):Int)) (Quiet.lenR hs.row (by rw [List.length_map]) _ Tryz.underlying25 rfl rfl)<|sS (.bool b3) (Quiet.pure (exec_int .neq _ _ _ .i64 _ _ _ rfl rfl rfl (int_neq _ _ _ _ _ (by rw [hb3]; exact decide_eq_decide.2 (by omega)))))<|sp rfl ?_
  cases b3
  case' true =>
   have l3:zs.length≠1:=of_decide_eq_true hb3.symm
   refine sN<|sN<|sN<|sN<|sN<|sN<|sN<|sN<|sP (.bool true) ?_
   refine sG<|sT<|sC ?_
   refine sP (.int .i64 133) ?_
   refine sG<|Sy.ret<|Sy.then_ret ?_
   have e:q0=133:=by rw [he]; unfold exec; rw [if_neg (by rw [List.length_map]; exact λh=>l3 h.1)]
   exact Sy.retT1 _ rfl (.inl (show _=some (.int .i64 133) by kernel_rfl)) (λ_ h=>h) ⟨s,r,k,N,by rw [e]; rfl,rfl⟩
  have l3:zs.length=1:=by
   have:=of_decide_eq_false hb3.symm
   omega
  obtain ⟨z,rfl⟩:=List.length_eq_one_iff.1 l3
  obtain ⟨sA_,sc,sv_,sv2,sarg⟩:=Slc_arg hs
  obtain ⟨A1,n9,c9,e9,a1,a2,a3,a4⟩:=sarg 0 (Nat.zero_le _)
  rcases hs.row.row with ⟨e1,_⟩ | ⟨gs,cap,rr,e2,h1,h2,h3⟩
  ·cases e1
  have hsb:rdC w0 (s.bl++(T++N)) gs (0+0*1) z.1:=.inr ⟨39,_,List.mem_append_left _ (by rw [e2]; exact List.mem_singleton.2 rfl),rfl⟩
  have d0:=hs.byt z (List.mem_singleton.2 rfl)
  obtain ⟨b4,hb4⟩:∃ b,b=tru z.2:=⟨_,rfl⟩
  refine sp rfl<|sp rfl<|sP (.pointer (some ⟨g,0,none⟩))<|sS (.slice (some ⟨gs,0,none⟩) 1 cap) (Quiet.cell 0 g 0 62 25 _ _ _ rfl kR rfl Tryz.underlying25 rfl _ (by rw [e2]; rfl))<|sS (.pointer (some ⟨gs,0+0*1,none⟩)) (Quiet.pure (exec_at 25 39 _ _ gs 0 1 cap 0 1 .i64 rfl rfl rfl Tryz.underlying25 kF (by omega)))<|sS z.1 (cellC (R:=s.bl++(T++N)) hsb (λb hb=>List.mem_append_right _ hb) rfl Tryz.underlying39)<|sS (.bool b4) (by rw [hb4]; exact qg (λw hw=>truth_any w z.1 z.2 (d0.le (rdC_world hw (λb hb=>List.mem_append_right _ (List.mem_append_right _ hb))))))<|sP (.bool (!b4))<|sP (.bool (!b4)) ?_
  refine sG ?_
  cases b4
  case' false =>
   refine sT<|sC ?_
   refine sP (.int .i64 133) ?_
   refine sG<|Sy.ret<|Sy.then_ret ?_
   have e:q0=133:=by
    rw [he]; unfold exec
    rw [if_neg]
    rintro ⟨_,h⟩
    have h':tru z.2=true:=h
    rw [← hb4] at h'; cases h'
   exact Sy.retT1 _ rfl (.inl (show _=some (.int .i64 133) by kernel_rfl)) (λ_ h=>h) ⟨s,r,k,N,by rw [e]; rfl,rfl⟩
  refine sU<|Sy.skip<|Sy.then_<|sC ?_
  refine sP (.int .i64 0) ?_
  refine sG<|Sy.ret ?_
  have e:q0=0:=by
   rw [he]; unfold exec
   rw [if_pos ⟨rfl,hb4.symm⟩]
  exact Sy.retT1 _ rfl (.inl (show _=some (.int .i64 0) by kernel_rfl)) (λ_ h=>h) ⟨s,r,k,N,by rw [e]; rfl,rfl⟩
 have l2:i<n:=of_decide_eq_true hb2.symm
 obtain ⟨⟨xv,x⟩,hx⟩:∃ z,xs[i]? = some z:=⟨_,List.getElem?_eq_getElem (by omega)⟩
 obtain ⟨ga,rfl,hxa⟩:=yat i _ hx
 dsimp only at hxa
 have hxm:=List.mem_of_getElem? hx
 have hxb:BytR (rdC w0 T) xv x.2:=hy.byt _ hxm
 obtain ⟨vA,vn,vc,rfl,v2,v3,v4,v5⟩:=hxb
 have hxb:BytR (rdC w0 T) (.slice vA vn vc) x.2:=⟨_,_,_,rfl,v2,v3,v4,v5⟩
 have hdr:(xs.map (·.2)).drop i=x::(xs.map (·.2)).drop (i+1):=by
  rw [List.drop_eq_getElem_cons (by rw [List.length_map]; omega)]
  congr 1
  have:=List.getElem?_eq_some_iff.1 hx
  obtain ⟨h1,h2⟩:=this
  rw [List.getElem_map,h2]
 rw [hdr] at he
 refine sT<|Sy.skip<|Sy.then_<|Sy.seq<|Sy.block<|sC ?_
 have mT:∀ b∈T,b∈MS g s m E.h r k (T++N):=λb hb=>List.mem_append_right _ (List.mem_append_right _ (List.mem_append_left _ hb))
 refine sS (.pointer (some ⟨ga,0+i*2,none⟩)) (Quiet.pure (exec_at 56 85 _ _ ga 0 n cp i 2 .i64 rfl rfl rfl Tryz.underlying56 kF l2))<|sS (.agg #[bv x.1,.slice vA vn vc]) (rowC (R:=T) (cs:=[bv x.1,.slice vA vn vc]) (λj u hu=>(rdC_le hyT _ _ _ (rdB_base _ _ _ (hxa j u hu)))) mT rfl rfl Tryz.underlying85) ?_
 refine sM 85 #[.int .u8 0,.slice none 0 0] (λg6=>?_)
 refine Sy.movT ?_
 refine sw 1 rfl #[bv x.1,.slice vA vn vc] (wA rfl) ?_
 refine Sy.setT ?_
 refine Sy.permS (M:=MS g s m E.h r k (T++(N++[(g6,85,#[bv x.1,.slice vA vn vc])]))) (Sy.flat_perm (ls:=[[(g,62,(mcs s.v m E.h r k).toArray)],[(g6,85,#[bv x.1,.slice vA vn vc])],s.bl,T,N]) (ms:=[[(g,62,(mcs s.v m E.h r k).toArray)],s.bl,T,N,[(g6,85,#[bv x.1,.slice vA vn vc])]]) [0,2,3,4,1] kR rfl (by simp) (by simp)) ?_
 obtain ⟨N1,hN1⟩:∃ N1,N1=N++[(g6,85,#[bv x.1,.slice vA vn vc])]:=⟨_,rfl⟩
 rw [← hN1]
 have h6:(g6,85,#[bv x.1,.slice vA vn vc])∈T++N1:=List.mem_append_right _ (by rw [hN1]; simp)
 have hNN:∀ b∈T++N,b∈T++N1:=λb hb=>by
  rcases List.mem_append.1 hb with hb | hb
  ·exact List.mem_append_left _ hb
  ·exact List.mem_append_right _ (by rw [hN1]; exact List.mem_append_left _ hb)
 have hs1:=hs.le (rdC_le (w0:=w0) hNN)
 have m1:∀ b∈T++N1,b∈MS g s m E.h r k (T++N1):=λb hb=>List.mem_append_right _ (List.mem_append_right _ hb)
 have c0:rdC w0 (T++N1) g6 0 (bv x.1):=.inr ⟨_,_,h6,rfl⟩
 have c01:XAt (rdC w0 (T++N1)) g6 0 [bv x.1,.slice vA vn vc]:=λj u hu=>.inr ⟨_,_,h6,by rw [Nat.zero_add,List.getElem?_toArray]; exact hu⟩
 refine sG<|sC ?_
 obtain ⟨b3,hb3⟩:∃ t_:Bool,t_=decide (0<k):=⟨_,rfl⟩
 refine sp rfl<|sp rfl<|sP (.pointer (some ⟨g,35,none⟩))<|sS (.int .i64 ((k:Nat):Int)) (Quiet.cell 0 g 35 62 3 _ _ _ rfl kR rfl Tryz.underlying3 rfl _ (mcs_k hm))<|sS (.bool b3) (Quiet.pure (exec_int .gtr _ _ _ .i64 _ _ _ rfl rfl rfl (int_gtr _ _ _ _ _ (by rw [hb3]; exact decide_eq_decide.2 (by omega))))) ?_
 refine sG ?_
 cases b3
 case' true =>
  have l3:0<k:=of_decide_eq_true hb3.symm
  refine sT<|Sy.region ?_
  refine sp rfl<|sP (.pointer (some ⟨g6,0,none⟩))<|sS (bv x.1) (cellC (R:=T++N1) c0 m1 rfl Tryz.underlying5) ?_
  refine Sy.callT (λw hw=>skip_any w0.inn g s m hm E.h k l3 (by omega) r (T++N1) x.1 w hw) (λv M hM=>?_)
  obtain rfl:=hM
  refine Sy.nil<|Sy.in_<|Sy.then_<|Sy.region ?_
  refine sS (.int .i64 ((i+1:Nat):Int)) (Quiet.pure (exec_int .add _ _ _ .i64 _ _ _ rfl rfl rfl (int_add _ _ _ _ _ ((wrap_i64 (by omega) (by omega)).trans (by omega)))))<|sp rfl ?_
  refine Sy.nil ?_
  exact Sy.againT ⟨s,r,pas x.1 k,N1,zs⟩ l2 ⟨hs1,n1,Nat.le_trans (pas_le _ _) (by omega),by rw [he,exec_pas _ _ _ _ _ l3]⟩ (all_cons kR (all_cons kR (all_cons kR (all_cons kR all_nil)))) (λw h=>h)
 have l3:¬ 0<k:=of_decide_eq_false hb3.symm
 obtain rfl:k=0:=by omega
 rw [exec_go] at he
 refine sU<|sC ?_
 refine sp rfl<|sS (.agg #[bv x.1,.slice vA vn vc]) (rowC (R:=T++N1) (cs:=[bv x.1,.slice vA vn vc]) c01 m1 rfl rfl Tryz.underlying85) ?_
 refine Sy.callT (λw hw=>step_any E m hm x (hok _ hxm) (hE _ hxm) hh w0.inn hT g s r (.slice vA vn vc) (T++N1) zs hs1 n1 (hxb.le (rdC_le (λb hb=>List.mem_append_left _ hb))) w hw) (λv M hM=>?_)
 obtain ⟨s2,r2,k2,N2,zs2,rfl,rfl,h0⟩:=hM
 obtain ⟨e,hee⟩:∃ e,e=stE E x (zs.map (·.2)):=⟨_,rfl⟩
 have hel:e≤136:=by
  rw [hee]; unfold stE
  have:=does_err E x (((zs.map (·.2)).drop ((zs.map (·.2)).length - needs x)))
  repeat' split
  all_goals omega
 rw [← hee] at h0 he ⊢
 refine sp rfl ?_
 refine sG<|sC ?_
 obtain ⟨b4,hb4⟩:∃ t_:Bool,t_=decide (e≠0):=⟨_,rfl⟩
 refine sp rfl<|sS (.bool b4) (Quiet.pure (exec_int .neq _ _ _ .i64 _ _ _ rfl rfl rfl (int_neq _ _ _ _ _ (by rw [hb4]; exact decide_eq_decide.2 (by omega))))) ?_
 refine sG ?_
 cases b4
 case' true =>
  have l4:e≠0:=of_decide_eq_true hb4.symm
  rw [if_pos l4] at he
  refine sT<|sC ?_
  refine sp rfl<|sp rfl ?_
  refine sG<|Sy.ret<|Sy.in_ret<|Sy.then_ret<|Sy.then_ret<|Sy.in_ret<|Sy.then_ret ?_
  exact Sy.retT1 _ rfl (.inl (show _=some (.int .i64 ((e:Nat):Int)) by kernel_rfl)) (λ_ h=>h) ⟨s2,r2,k2,N1++N2,by rw [he],by rw [List.append_assoc]⟩
 have l4:e=0:=by
  have:=of_decide_eq_false hb4.symm
  omega
 rw [if_neg (by omega)] at he
 obtain ⟨q1,q2,q3⟩:=h0 l4
 refine sU<|Sy.skip<|Sy.in_<|Sy.then_<|Sy.region ?_
 refine sS (.int .i64 ((i+1:Nat):Int)) (Quiet.pure (exec_int .add _ _ _ .i64 _ _ _ rfl rfl rfl (int_add _ _ _ _ _ ((wrap_i64 (by omega) (by omega)).trans (by omega)))))<|sp rfl ?_
 refine Sy.nil ?_
 have hz2:zs2.length≤32:=by
  have e1:zs2.length=(stS E x (zs.map (·.2))).length:=by rw [← q3,List.length_map]
  have e2:stE E x (zs.map (·.2))=0:=by rw [← hee]; exact l4
  unfold stE at e2
  rw [e1]; unfold stS
  split at e2
  ·cases e2
  ·split at e2
   ·rename_i h; exact absurd e2 h
   ·split at e2
    ·cases e2
    ·omega
 exact Sy.againT ⟨s2,r2,k2,N1++N2,zs2⟩ l2 ⟨by rw [← List.append_assoc]; exact q2,hz2,by rw [q1]; exact Nat.le_trans (stK_le _ _) (by omega),by rw [he,q3,q1]⟩ (all_cons kR (all_cons kR (all_cons kR (all_cons kR all_nil)))) (λw h=>by rw [← List.append_assoc]; exact h)
end Pg
end
section
namespace Pg
open Go.RowKit Sy
set_option maxRecDepth 100000
set_option maxHeartbeats 4000000
open Wr
theorem setAll_mid {A z v Z:List Value} {f:Nat} (hf:A.length=f) (hz:z.length=v.length):setAll (A++(z++Z)).toArray f v=(A++(v++Z)).toArray:=by
 subst hf
 rw [setAll_is _ _ _ (by simp [hz])]
 rw [List.take_left, ← List.drop_drop,List.drop_left, ← hz,List.drop_left]
theorem fill_nil {place:Nat→Option (Nat×Nat)} {cs:Array Value}:Instr.fill place cs []=some cs:=by unfold Instr.fill; rfl
theorem fill_at {place:Nat→Option (Nat×Nat)} {A B C c:List Value} {v:Value} {i n o:Nat} {rest:List (Nat×Value)} (hp:place i=some (o,n)) (hv:v.cells=c.toArray) (hA:A.length=o) (hB:B.length=n) (hc:c.length=n):Instr.fill place (A++(B++C)).toArray ((i,v)::rest)=Instr.fill place (A++(c++C)).toArray rest:=by
 conv=>lhs; unfold Instr.fill
 rw [hp]
 simp only [hv,List.size_toArray,hc,ne_eq,not_true_eq_false,decide_false,Bool.false_or]
 rw [if_neg (by simp only [List.length_append,hA,hB,decide_eq_true_eq]; omega)]
 have h1:c.toArray.zipIdx.foldl (λcs (x:Value×Nat)=>cs.setIfInBounds (o+x.2) x.1) (A++(B++C)).toArray=setAll (A++(B++C)).toArray (o+0) c:=by
  rw [← fold_all c o 0, ← Array.foldl_toList,Array.toList_zipIdx]
 rw [h1,Nat.add_zero,setAll_mid hA (hB.trans hc.symm)]
theorem run_boxR {P:Program} {F:Slots} {o:Oper} {t:TypeId} {x:Operand} {cs:List Value} {k:Nat} (ho:o.op=.box t x) (hx:evF F x=.agg cs.toArray) (hi:(P.info? t).map (·.size)=some k) (hl:cs.length=k) (w:World):(execOp (evF F) o).run P w=.ok (.value (ptr w.heap.size)) (w.alloc (.cells cs.toArray t)):=by
 unfold execOp
 simp only [ho,hx,Sem.run_bind,Instr.box]
 simp [newVar,newRow,Value.cells,ptr,Result.andThen]
theorem leafE {P:Program} {w0:Base} {n:Nat} {Q:Exit→Act→World→Prop} {F:Slots} {L:Blocks} {ops:Array Oper} {ex:Nat→Bool} {fuel:Nat} {listed:Array Bool} {T:Type} {FF:T→Slots} {LL:T→Blocks} {H:T→Prop} {li:Array Bool} (h:∀ x,H x→wpD P w0 n ops Q ex (FF x) (LL x) fuel li) (x:T) (hx:H x) (hl:listed=li) (hF:∀ p∈FF x,F.lookup p.1=some p.2) (p:L.Perm (LL x)):wpD P w0 n ops Q ex F L fuel listed:=λa w ha hw=>by
 subst hl
 exact h x hx a w (ha.all hF) (hw.perm p)
theorem fits1_any (w:World) (v:Value) (b:Byt) (hv:BytR (rdW w) v b):Calls Tryz.prog 38 #[v] w (Gets w (.bool (decide (256<b.length)))):=by
 obtain ⟨A,n,cp,rfl,h2,h3,h4,h5⟩:=hv
 refine Sy.enter (args:=[.slice A n cp]) Tryz.func38 rfl kL ?_
 refine sC ?_
 refine sP (.bool false) ?_
 refine sA ?_
 rw [h2]
 refine sp rfl<|sP (.int .i64 (n:Int))<|sS (.bool (decide (256<n))) (Quiet.pure (exec_int .gtr _ _ _ .i64 _ _ _ rfl rfl rfl (int_gtr _ _ _ _ _ (decide_eq_decide.2 (by omega)))))<|sp rfl ?_
 refine sG<|Sy.ret ?_
 exact rV (.bool (decide (256<n))) rfl
def smalls (l:List Byt):Bool:=l.all λb=>decide (b.length≤256)
def IxR (L:Blocks) (l:List Byt) (v:Value) (M:Blocks):Prop:=∃ z:Int,v=.int .i64 z∧(decide (0≤z)=!(smalls l))∧M=L
theorem index_any (w0:Base) (L R:Blocks) (hR:∀ b∈R,b∈L) (v:Value) (zs:List (Value×Byt)) (hv:Arg (rdC w0 R) (rdC w0 R) v zs) (w:World) (hw:St w0 w L):Calls Tryz.prog 65 #[v,.func (.func 38) #[] #[]] w (Turns w0 (IxR L (zs.map (·.2)))):=by
 obtain ⟨A,n,cp,rfl,h2,h3,h4,h5⟩:=hv
 refine Sy.enterT (args:=[.slice A n cp,.func (.func 38) #[] #[]]) hw Tryz.func65 rfl kL ?_
 have hmx:cp<9223372036854775808:=by simp only [maxLen] at h4; omega
 refine sC ?_
 refine sP (.int .i64 0) ?_
 refine sG<|Sy.seq<|sC ?_
 refine sp rfl<|sP (.int .i64 (n:Int))<|sP (.int .i64 0) ?_
 refine sG<|Sy.block ?_
 refine Sy.loopT (Y:=Unit) n (λi _=>[(0,.slice A n cp),(1,.func (.func 38) #[] #[]),(7,.int .i64 (n:Int)),(8,.int .i64 (i:Int))]) (λ_ _=>L) (λi _=>smalls ((zs.take i).map (·.2))=true) () rfl (all_cons kR (all_cons kR (all_cons kR (all_cons kR all_nil)))) (λ_ h=>h) (λi _ hi hy=>?_)
 refine sC ?_
 obtain ⟨b2,hb2⟩:∃ t_:Bool,t_=decide (i<n):=⟨_,rfl⟩
 refine sS (.bool b2) (Quiet.pure (exec_int .lss _ _ _ .i64 _ _ _ rfl rfl rfl (int_lss _ _ _ _ _ (by rw [hb2]; exact decide_eq_decide.2 (by omega))))) ?_
 refine sG<|Sy.seq ?_
 cases b2
 case' false =>
  have l2:¬ i<n:=of_decide_eq_false hb2.symm
  obtain rfl:i=n:=by omega
  rw [List.take_of_length_le (by omega)] at hy
  refine sU<|Sy.exit<|Sy.then_exit<|Sy.then_exit<|Sy.in_exit<|Sy.then_<|sC ?_
  refine sP (.int .i64 (-1)) ?_
  refine sG<|Sy.ret ?_
  exact Sy.retT1 L rfl (.inl (show _=some (.int .i64 (-1)) by kernel_rfl)) (λ_ h=>h) ⟨-1,rfl,by rw [hy]; rfl,rfl⟩
 have l2:i<n:=of_decide_eq_true hb2.symm
 obtain ⟨q1,hz⟩:∃ q1,zs[i]? = some q1:=⟨_,List.getElem?_eq_getElem (by omega)⟩
 obtain ⟨g,o,rfl,hq⟩:=h5 (by intro e; rw [e] at hz; cases hz)
 obtain ⟨c0,d0⟩:=hq i q1 hz
 have htk:smalls ((zs.take (i+1)).map (·.2))=decide (q1.2.length≤256):=by
  rw [List.take_add_one,hz,List.map_append]
  unfold smalls at hy ⊢
  rw [List.all_append,hy]
  simp
 refine sT<|Sy.skip<|Sy.then_<|Sy.seq<|Sy.block<|sC ?_
 refine sp rfl<|sp rfl ?_
 refine sG<|sC ?_
 obtain ⟨b3,hb3⟩:∃ t_:Bool,t_=decide (256<q1.2.length):=⟨_,rfl⟩
 refine sp rfl<|sp rfl<|sp rfl<|sS (.pointer (some ⟨g,o+i*1,none⟩)) (Quiet.pure (exec_at 25 39 _ _ g o n cp i 1 .i64 rfl rfl rfl Tryz.underlying25 kF l2))<|sS q1.1 (cellC (R:=R) (show rdC w0 R g (o+i*1) q1.1 by rw [Nat.mul_one]; exact c0) hR rfl Tryz.underlying39)<|sS (.bool b3) (by rw [hb3]; exact qg (λw hw=>fits1_any w q1.1 q1.2 (d0.le (rdC_world hw hR)))) ?_
 refine sG ?_
 cases b3
 case' true =>
  have l3:256<q1.2.length:=of_decide_eq_true hb3.symm
  refine sT<|sC ?_
  refine sp rfl<|sp rfl ?_
  refine sG<|Sy.ret<|Sy.in_ret<|Sy.then_ret<|Sy.then_ret<|Sy.in_ret<|Sy.then_ret ?_
  exact Sy.retT1 L rfl (.inl (show _=some (.int .i64 (i:Int)) by kernel_rfl)) (λ_ h=>h) ⟨(i:Int),rfl,by
   have:smalls (zs.map (·.2))=false:=by
    unfold smalls
    rw [List.all_eq_false]
    exact ⟨q1.2,List.mem_map.2 ⟨q1,List.mem_of_getElem? hz,rfl⟩,by simp; omega⟩
   rw [this]; simp,rfl⟩
 have l3:¬ 256<q1.2.length:=of_decide_eq_false hb3.symm
 refine sU<|Sy.skip<|Sy.in_<|Sy.then_<|Sy.region ?_
 refine sS (.int .i64 ((i+1:Nat):Int)) (Quiet.pure (exec_int .add _ _ _ .i64 _ _ _ rfl rfl rfl (int_add _ _ _ _ _ ((wrap_i64 (by omega) (by omega)).trans (by omega)))))<|sp rfl ?_
 refine Sy.nil ?_
 exact Sy.againT () l2 (by rw [htk]; simp; omega) (all_cons kR (all_cons kR (all_cons kR (all_cons kR all_nil)))) (λw h=>h)
theorem contains_any (w0:Base) (L R:Blocks) (hR:∀ b∈R,b∈L) (v:Value) (zs:List (Value×Byt)) (hv:Arg (rdC w0 R) (rdC w0 R) v zs) (w:World) (hw:St w0 w L):Calls Tryz.prog 37 #[v,.func (.func 38) #[] #[]] w (Turns w0 (λu M=>u=.bool (!(smalls (zs.map (·.2))))∧M=L)):=by
 refine Sy.enterT (args:=[v,.func (.func 38) #[] #[]]) hw Tryz.func37 rfl kL ?_
 refine sC ?_
 refine sP (.bool false) ?_
 refine sA ?_
 refine sp rfl<|sp rfl ?_
 refine Sy.callT (λw hw=>index_any w0.inn L R hR v zs hv w hw) (λu M hM=>?_)
 obtain ⟨z,rfl,hz,rfl⟩:=hM
 refine sS (.bool (!(smalls (zs.map (·.2))))) (Quiet.pure (exec_int .geq _ _ _ .i64 _ _ _ rfl rfl rfl (int_geq _ _ _ _ _ hz)))<|sp rfl ?_
 refine sG<|Sy.ret ?_
 exact Sy.retT1 _ rfl (.inl (show _=some (.bool (!(smalls (zs.map (·.2))))) by kernel_rfl)) (λ_ h=>h) ⟨rfl,rfl⟩
theorem fits_any (w0:Base) (L R:Blocks) (hR:∀ b∈R,b∈L) (v:Value) (zs:List (Value×Byt)) (hv:Arg (rdC w0 R) (rdC w0 R) v zs) (w:World) (hw:St w0 w L):Calls Tryz.prog 19 #[v] w (Turns w0 (λu M=>u=.bool (fits (zs.map (·.2)))∧M=L)):=by
 have hv0:=hv
 obtain ⟨A,n,cp,rfl,h2,h3,h4,h5⟩:=hv
 refine Sy.enterT (args:=[.slice A n cp]) hw Tryz.func19 rfl kL ?_
 refine sC ?_
 refine sP (.bool false) ?_
 refine sA ?_
 obtain ⟨b1,hb1⟩:∃ t_:Bool,t_=decide (n≤16):=⟨_,rfl⟩
 refine sp rfl<|sP (.int .i64 (n:Int))<|sS (.bool b1) (Quiet.pure (exec_int .leq _ _ _ .i64 _ _ _ rfl rfl rfl (int_leq _ _ _ _ _ (by rw [hb1]; exact decide_eq_decide.2 (by omega)))))<|sp rfl ?_
 have e:fits (zs.map (·.2))=(b1 && smalls (zs.map (·.2))):=by
  unfold fits smalls; rw [List.length_map,h2,hb1]
 rw [e]
 cases b1
 case' false =>
  refine sN<|sN<|sN<|sP (.bool false)<|sp rfl ?_
  refine sG<|Sy.ret ?_
  exact Sy.retT1 _ rfl (.inl (show _=some (.bool false) by kernel_rfl)) (λ_ h=>h) ⟨rfl,rfl⟩
 refine sp rfl ?_
 refine Sy.callT (λw hw=>contains_any w0.inn L R hR (.slice A n cp) zs hv0 w hw) (λu M hM=>?_)
 obtain ⟨rfl,rfl⟩:=hM
 obtain ⟨b2,hb2⟩:∃ b2,b2=smalls (zs.map (·.2)):=⟨_,rfl⟩
 rw [← hb2]
 refine sP (.bool (!(!b2)))<|sP (.bool (!(!b2)))<|sp rfl ?_
 refine sG<|Sy.ret ?_
 exact Sy.retT1 _ rfl (.inl (show _=some (.bool (!(!b2))) by kernel_rfl)) (λ_ h=>h) ⟨by rw [Bool.not_not,Bool.true_and],rfl⟩
def ClR (zs:List (Value×Byt)) (u:Value) (M:Blocks):Prop:=∃ y:Slc,u=y.v∧M=y.bl∧y.Is 39 1 (zs.map λz=>[z.1])
theorem cloneW_any (w:World) (v:Value) (zs:List (Value×Byt)) (hv:Arg (rdW w) (rdW w) v zs) (hn:zs.length≤16):Calls Tryz.prog 20 #[v] w (GetsN w (ClR zs)):=by
 obtain ⟨A,n,cp,rfl,h2,h3,h4,h5⟩:=hv
 refine Sy.enter (args:=[.slice A n cp]) Tryz.func20 rfl kL ?_
 refine sC ?_
 refine sP (.slice none 0 0) ?_
 refine sG<|Sy.seq<|sC ?_
 rcases A with _ | a
 ·refine sp rfl<|sP (.bool true) ?_
  refine sG<|sT<|sC ?_
  refine sP (.slice none 0 0) ?_
  refine sG<|Sy.ret<|Sy.then_ret ?_
  have hz:zs=[]:=by
   rcases zs with _ | ⟨z,l⟩
   ·rfl
   ·obtain ⟨g,o,e,_⟩:=h5 (by simp); cases e
  subst hz
  exact Sy.retGM [] rfl (.inl (show _=some (.slice none 0 0) by kernel_rfl)) (λ_ h=>h) ⟨nilS,rfl,rfl,Slc.Is.nil _ _⟩
 refine sp rfl<|sP (.bool false) ?_
 refine sG<|sU<|Sy.skip<|Sy.then_<|sC ?_
 refine Sy.make kR 39 #[] (λg=>.slice (some ⟨g,0,none⟩) 0 0) kF (λg1=>?_)
 refine sp rfl ?_
 have hr1:Slc.Is ⟨.slice (some ⟨g1,0,none⟩) 0 0,[(g1,39,#[])]⟩ 39 1 []:=Slc.Is.mk' (cs:=[]) (λ_ h=>by cases h) (λ_ h=>by cases h) rfl rfl rfl (Nat.le_refl _) (by decide)
 have hone:∀ y∈zs.map (λz=>[z.1]), ∀ u∈y,u.oneCell'=true:=λy hy u hu=>by
  obtain ⟨z,hz,rfl⟩:=List.mem_map.1 hy
  rw [List.mem_singleton.1 hu]
  obtain ⟨i,hi⟩:=List.getElem?_of_mem hz
  obtain ⟨g,o,_,hq⟩:=h5 (by intro e; rw [e] at hz; cases hz)
  exact (hq i z hi).2.cells.2
 have hf:∀ L',From (Base.of w) L' (some a) (zs.map λz=>[z.1]).flatten:=λL' w' hw'=>by
  have e1:∀ l:List (Value×Byt),(l.map λz=>[z.1]).flatten=l.map (·.1):=λl=>by
   induction l with
   | nil=>rfl
   | cons a l ih=>show a.1::(l.map λz=>[z.1]).flatten=_; rw [ih]; rfl
  rw [e1]
  rcases zs with _ | ⟨z,l⟩
  ·exact .inl rfl
  ·obtain ⟨g,o,e,hq⟩:=h5 (by simp)
   injection e with e
   subst e
   refine .inr ⟨_,rfl,λj u hj=>?_⟩
   rw [addr_off]
   rw [List.getElem?_map] at hj
   cases hx:(z::l)[j]? with
   | none=>rw [hx] at hj; cases hj
   | some x =>
    rw [hx] at hj
    cases hj
    obtain ⟨⟨p1,p2⟩,_⟩:=hq j x hx
    exact (Below.cell (p:=⟨g,o+j,none⟩) hw'.below p1).trans p2
 refine Sy.appendM (pre:=[]) (T:=[]) (r:=⟨.slice (some ⟨g1,0,none⟩) 0 0,[(g1,39,#[])]⟩) kR 25 39 _ _ 1 24 Tryz.underlying25 info_sl rfl rfl rfl rfl (by decide) _ _ rfl hr1 kR (λy hy=>by obtain ⟨z,_,rfl⟩:=List.mem_map.1 hy; rfl) hone (some a) n cp (by rw [List.length_map,h2]) h3 kR (λr=>hf _) (by simp; omega) (by simp [maxLen]; omega) (λs2 hs2=>?_)
 refine sp rfl ?_
 refine sG<|Sy.ret ?_
 exact Sy.retGM s2.bl rfl (.inl (show _=some s2.v by kernel_rfl)) (λ_ h=>by simpa using h) ⟨s2,rfl,rfl,hs2⟩
end Pg
end
section
namespace Pg
open Go.RowKit Sy
set_option maxRecDepth 100000
set_option maxHeartbeats 4000000
open Wr
theorem mcs_one {v:Value} {m:Byt} {h k:Nat} (hv:v.oneCell'=true):∀ u∈mcs v m h (.slice none 0 0) k,u.oneCell'=true:=λu hu=>by
 unfold mcs at hu
 simp only [List.mem_cons,List.mem_append,List.mem_map,List.not_mem_nil,or_false] at hu
 rcases hu with rfl | ⟨b,_,rfl⟩ | rfl | rfl | rfl
 ·exact hv
 all_goals rfl
noncomputable def infMa:TypeInfo:=(Tryz.prog.info? 62).getD default
theorem info_ma:Tryz.prog.info? 62=some infMa:=by kernel_rfl
theorem build_ma {F:Slots} {o:Oper} (m:Byt) (hm:m.length=32) (h:Nat) (v:Value) (hv:v.cells=#[v]) (x y u:Operand) (ho:o.op=.build 62 #[(0,x),(1,y),(2,u)]) (hx:evF F x=v) (hy:evF F y=.agg (m.map bv).toArray) (hu:evF F u=.int .u64 ((h:Nat):Int)) (w:World):(execOp (evF F) o).run Tryz.prog w=.ok (.value (.agg (mcs v m h (.slice none 0 0) 0).toArray)) w:=by
 have hb:Tryz.prog.built 62 #[(0,v),(1,.agg (m.map bv).toArray),(2,.int .u64 ((h:Nat):Int))].toList=some (mcs v m h (.slice none 0 0) 0).toArray:=by
  unfold Program.built
  rw [info_ma,Tryz.underlying62]
  have hz:infMa.zero=some (.agg (.slice none 0 0::((List.replicate 32 (0:UInt8)).map bv++[.int .u64 0,.slice none 0 0,.int .i64 0])).toArray):=by kernel_rfl
  simp only [hz]
  have e1:=fill_at (place:=λi=>[(0,1),(1,32),(33,1),(34,1),(35,1)].toArray[i]?) (A:=[]) (B:=[.slice none 0 0]) (C:=(List.replicate 32 (0:UInt8)).map bv++[.int .u64 0,.slice none 0 0,.int .i64 0]) (c:=[v]) (v:=v) (i:=0) (n:=1) (o:=0) (rest:=[(1,.agg (m.map bv).toArray),(2,.int .u64 ((h:Nat):Int))]) rfl hv rfl rfl rfl
  have e2:=fill_at (place:=λi=>[(0,1),(1,32),(33,1),(34,1),(35,1)].toArray[i]?) (A:=[v]) (B:=(List.replicate 32 (0:UInt8)).map bv) (C:=[.int .u64 0,.slice none 0 0,.int .i64 0]) (c:=m.map bv) (v:=.agg (m.map bv).toArray) (i:=1) (n:=32) (o:=1) (rest:=[(2,.int .u64 ((h:Nat):Int))]) rfl rfl rfl (by rw [List.length_map,List.length_replicate]) (by rw [List.length_map,hm])
  have e3:=fill_at (place:=λi=>[(0,1),(1,32),(33,1),(34,1),(35,1)].toArray[i]?) (A:=v::m.map bv) (B:=[.int .u64 0]) (C:=[.slice none 0 0,.int .i64 0]) (c:=[.int .u64 ((h:Nat):Int)]) (v:=.int .u64 ((h:Nat):Int)) (i:=2) (n:=1) (o:=33) (rest:=[]) rfl rfl (by rw [List.length_cons,List.length_map,hm]) rfl rfl
  exact (e1.trans (e2.trans (e3.trans fill_nil)))
 have hr:=run_build (P:=Tryz.prog) w 62 #[(0,v),(1,.agg (m.map bv).toArray),(2,.int .u64 ((h:Nat):Int))] _ hb
 unfold execOp
 simp only [ho,Sem.run_bind,List.map_toArray,List.map_cons,List.map_nil,hx,hy,hu,hr,Result.andThen_ok,Sem.run_pure]
theorem parse_err (p:Byt):(parse p).1≤135:=by
 have h:∀ (n:Nat) (p:Byt) (o:List Bool),(parseN n p o).1≤135:=by
  intro n
  induction n with
  | zero=>intro p o; cases p <;> (unfold parseN; try split) <;> simp
  | succ n ih =>
   intro p o
   cases p with
   | nil=>unfold parseN; split <;> simp
   | cons c r =>
    unfold parseN
    split
    ·simp
    ·split
     ·simp
     ·split
      ·simp
      ·split
       ·simp
       ·exact ih _ _
 unfold parse
 split
 ·simp
 ·exact h _ _ _
theorem right_any (w0:Base) (L R:Blocks) (hR:∀ b∈R,b∈L) (v:Value) (p:Byt) (hv:BytR (rdC w0 R) v p) (w:World) (hw:St w0 w L):Calls Tryz.prog 14 #[v] w (Turns w0 (λu M=>u=.int .i64 (((parse p).1:Nat):Int)∧M=L)):=by
 refine Sy.enterT (args:=[v]) hw Tryz.func14 rfl kL ?_
 refine sC ?_
 refine sP (.int .i64 0) ?_
 refine sA ?_
 refine sp rfl ?_
 refine Sy.callT (λw hw=>parse_any w0.inn L R v p hR hv w hw) (λu M hM=>?_)
 obtain ⟨y,xs,rfl,rfl,hy,hq⟩:=hM
 refine sp rfl<|sp rfl<|sp rfl<|sp rfl<|sp rfl ?_
 refine sA ?_
 refine sp rfl<|sp rfl ?_
 refine sG<|Sy.ret ?_
 exact Sy.retT1 L rfl (.inl (show _=some (.int .i64 (((parse p).1:Nat):Int)) by kernel_rfl)) (λ_ h=>h.less (List.sublist_append_left _ _)) ⟨rfl,rfl⟩
theorem run_any {Tb:World→Prop} (E:Env) (m:Byt) (hm:m.length=32) (hh:E.h<18446744073709551616) (w0:Base) (hTb:Tb w0.world) (L R:Blocks) (hR:∀ b∈R,b∈L) (pv wv:Value) (p:Byt) (zs:List (Value×Byt)) (hp:BytR (rdC w0 R) pv p) (hz:Arg (rdC w0 R) (rdC w0 R) wv zs) (hE:∀ x∈(parse p).2,EfC Tb E m x (fnOf x.1)) (w:World) (hw:St w0 w L) :
  Calls Tryz.prog 11 #[pv,wv,.agg (m.map bv).toArray,.int .u64 ((E.h:Nat):Int)] w (Turns w0 (λu M=>u=.int .i64 ((run E p (zs.map (·.2)):Nat):Int)∧M=L)):=by
 refine Sy.enterT (args:=[pv,wv,.agg (m.map bv).toArray,.int .u64 ((E.h:Nat):Int)]) hw Tryz.func11 rfl kL ?_
 have hml:(m.map bv).length=32:=by rw [List.length_map,hm]
 refine sC ?_
 refine sM 27 (m.map bv).toArray (λg6=>?_) kR (λw=>run_boxR rfl rfl (by kernel_rfl) hml w)
 obtain ⟨L1,hL1⟩:∃ L1,L1=L++[(g6,27,(m.map bv).toArray)]:=⟨_,rfl⟩
 rw [← hL1]
 have hLL:∀ b∈L,b∈L1:=λb hb=>by rw [hL1]; exact List.mem_append_left _ hb
 have h6:(g6,27,(m.map bv).toArray)∈L1:=by rw [hL1]; simp
 have hR1:∀ b∈R,b∈L1:=λb hb=>hLL b (hR b hb)
 have hsub:List.Sublist L L1:=by rw [hL1]; exact List.sublist_append_left _ _
 refine sP (.int .i64 0) ?_
 refine sA ?_
 refine sp rfl ?_
 refine Sy.callT (λw hw=>parse_any w0.inn L1 R pv p hR1 hp w hw) (λu M hM=>?_)
 obtain ⟨y,xs,rfl,rfl,hy,hq⟩:=hM
 have hpe:=parse_err p
 have hok:∀ z∈xs,okO z.2:=λz hz=>parse_ok p _ (by rw [hq]; exact List.mem_map.2 ⟨z,hz,rfl⟩)
 have hE':∀ z∈xs,EfC Tb E m z.2 (fnOf z.2.1):=λz hz=>hE _ (by rw [hq]; exact List.mem_map.2 ⟨z,hz,rfl⟩)
 have hxl:xs.length≤256:=by
  have:=parse_len p
  rw [hq,List.length_map] at this; exact this
 obtain ⟨e,he⟩:∃ e,e=(parse p).1:=⟨_,rfl⟩
 rw [← he] at hpe ⊢
 refine sp rfl<|sp rfl<|sp rfl<|sp rfl<|sp rfl ?_
 refine sG<|Sy.seq<|sC ?_
 obtain ⟨b1,hb1⟩:∃ t_:Bool,t_=decide (e≠0):=⟨_,rfl⟩
 refine sp rfl<|sS (.bool b1) (Quiet.pure (exec_int .neq _ _ _ .i64 _ _ _ rfl rfl rfl (int_neq _ _ _ _ _ (by rw [hb1]; exact decide_eq_decide.2 (by omega))))) ?_
 refine sG ?_
 cases b1
 case' true =>
  have l1:e≠0:=of_decide_eq_true hb1.symm
  refine sT<|sC ?_
  refine sp rfl<|sp rfl ?_
  refine sG<|Sy.ret<|Sy.then_ret ?_
  have er:run E p (zs.map (·.2))=e:=by unfold run; rw [if_pos (by rw [← he]; exact l1), ← he]
  exact Sy.retT1 L rfl (.inl (show _=some (.int .i64 ((e:Nat):Int)) by kernel_rfl)) (λ_ h=>h.less (hsub.trans (List.sublist_append_left _ _))) ⟨by rw [er],rfl⟩
 have l1:e=0:=by
  have:=of_decide_eq_false hb1.symm
  omega
 refine sU<|Sy.skip<|Sy.then_<|Sy.seq<|sC ?_
 refine sp rfl ?_
 refine Sy.callT (λw hw=>fits_any w0.inn (L1++y.bl) R (λb hb=>List.mem_append_left _ (hR1 b hb)) wv zs hz w hw) (λu M hM=>?_)
 obtain ⟨rfl,rfl⟩:=hM
 obtain ⟨b2,hb2⟩:∃ b2,b2=fits (zs.map (·.2)):=⟨_,rfl⟩
 rw [← hb2]
 refine sP (.bool (!b2)) ?_
 refine sG ?_
 cases b2
 case' false =>
  refine sT<|sC ?_
  refine sP (.int .i64 130) ?_
  refine sG<|Sy.ret<|Sy.then_ret ?_
  have er:run E p (zs.map (·.2))=130:=by unfold run; rw [if_neg (by rw [← he]; omega), ← hb2]; rfl
  exact Sy.retT1 L rfl (.inl (show _=some (.int .i64 130) by kernel_rfl)) (λ_ h=>h.less (hsub.trans (List.sublist_append_left _ _))) ⟨by rw [er]; rfl,rfl⟩
 have hzl:zs.length≤16:=by
  have h:=hb2.symm
  unfold fits at h
  rw [Bool.and_eq_true,decide_eq_true_iff,List.length_map] at h
  exact h.1
 refine sU<|Sy.skip<|Sy.then_<|Sy.seq ?_
 refine Sy.regionD (λj=>j == 6) kR ?_
 obtain ⟨T,hT⟩:∃ T,T=L1++y.bl:=⟨_,rfl⟩
 rw [← hT]
 have h6T:(g6,27,(m.map bv).toArray)∈T:=by rw [hT]; exact List.mem_append_left _ h6
 have hRT:∀ b∈R,b∈T:=λb hb=>by rw [hT]; exact List.mem_append_left _ (hR1 b hb)
 have hyT:∀ b∈y.bl,b∈T:=λb hb=>by rw [hT]; exact List.mem_append_right _ hb
 refine sa 0 rfl rfl<|sD 2 rfl (.agg (m.map bv).toArray) (rowC (R:=T) (cs:=m.map bv) (λj u hu=>.inr ⟨_,_,h6T,by rw [Nat.zero_add,List.getElem?_toArray]; exact hu⟩) (λ_ h=>h) hml rfl Tryz.underlying27)<|sa 3 rfl rfl ?_
 refine Sy.joinG (T:=Slc×Nat) (λz=>[(9,y.v),(11,ptr z.2),(27,.agg (mcs z.1.v m E.h (.slice none 0 0) 0).toArray)]) (λz=>[(z.2,62,(.slice none 0 0::((List.replicate 32 (0:UInt8)).map bv++[.int .u64 0,.slice none 0 0,.int .i64 0])).toArray)]++(z.1.bl++T)) (λz=>z.1.Is 39 1 (zs.map λz=>[z.1])) 1 #[true,true,true,true,true,true,false] (λz hs=>?_) (λk=>?_)
 case refine_2 =>
  have hcl:∀ w,St w0.inn w T→Calls Tryz.prog 20 #[wv] w (GetsN w (ClR zs)):=λw hw=>cloneW_any w wv zs (by
   obtain ⟨A,n,cp,e1,e2,e3,e4,e5⟩:=hz
   exact ⟨A,n,cp,e1,e2,e3,e4,λhne=>by
    obtain ⟨g,o,q1,q2⟩:=e5 hne
    exact ⟨g,o,q1,λj z hj=>⟨rdC_world hw hRT _ _ _ (q2 j z hj).1,(q2 j z hj).2.le (rdC_world hw hRT)⟩⟩⟩) hzl
  refine Sy.anyOf [1,5] (by kernel_rfl) (by decide) (Sy.each2 ?_ ?_)
  ·refine Sy.oneCallN rfl (by kernel_rfl) 20 #[wv] (by intro _; kernel_rfl) (ClR zs) hcl (λu M hM=>?_)
   obtain ⟨s,rfl,rfl,hs⟩:=hM
   refine sv 4 rfl (.agg (mcs s.v m E.h (.slice none 0 0) 0).toArray) (build_ma m hm E.h s.v hs.cells.1 _ _ _ rfl rfl rfl rfl) ?_
   refine Sy.makeD 5 rfl kR kR 62 (.slice none 0 0::((List.replicate 32 (0:UInt8)).map bv++[.int .u64 0,.slice none 0 0,.int .i64 0])).toArray ptr kF (λgm=>?_)
   exact leafE k (s,gm) hs rfl (all_cons kR (all_cons kR (all_cons kR all_nil))) (Sy.flat_perm (ls:=[T,s.bl,[(gm,62,(.slice none 0 0::((List.replicate 32 (0:UInt8)).map bv++[.int .u64 0,.slice none 0 0,.int .i64 0])).toArray)]]) (ms:=[[(gm,62,(.slice none 0 0::((List.replicate 32 (0:UInt8)).map bv++[.int .u64 0,.slice none 0 0,.int .i64 0])).toArray)],s.bl,T]) [2,1,0] kR rfl (by simp) (by simp))
  ·refine Sy.oneMake rfl (by kernel_rfl) 62 (.slice none 0 0::((List.replicate 32 (0:UInt8)).map bv++[.int .u64 0,.slice none 0 0,.int .i64 0])).toArray ptr kF (λgm=>?_)
   refine Sy.callND 1 rfl kR kR 20 #[wv] (by intro _; kernel_rfl) (ClR zs) (λw hw=>hcl w (hw.less (List.sublist_append_left _ _))) (λu M hM=>?_)
   obtain ⟨s,rfl,rfl,hs⟩:=hM
   refine sv 4 rfl (.agg (mcs s.v m E.h (.slice none 0 0) 0).toArray) (build_ma m hm E.h s.v hs.cells.1 _ _ _ rfl rfl rfl rfl) ?_
   exact leafE k (s,gm) hs rfl (all_cons kR (all_cons kR (all_cons kR all_nil))) (Sy.flat_perm (ls:=[T,[(gm,62,(.slice none 0 0::((List.replicate 32 (0:UInt8)).map bv++[.int .u64 0,.slice none 0 0,.int .i64 0])).toArray)],s.bl]) (ms:=[[(gm,62,(.slice none 0 0::((List.replicate 32 (0:UInt8)).map bv++[.int .u64 0,.slice none 0 0,.int .i64 0])).toArray)],s.bl,T]) [1,2,0] kR rfl (by simp) (by simp))
 obtain ⟨s,gm⟩:=z
 dsimp only at hs ⊢
 refine sx 6 rfl 0 rfl (mcs s.v m E.h (.slice none 0 0) 0).toArray (Writes.row 62 (mcs s.v m E.h (.slice none 0 0) 0) 36 _ _ rfl kR kR kR (mcs_len hm) (by simp) (mcs_one hs.cells.2)) ?_
 refine Sy.permD (M:=MS gm s m E.h (.slice none 0 0) 0 T) (List.Perm.of_eq rfl) ?_
 refine sE ?_
 refine Sy.then_<|sC ?_
 refine sp rfl ?_
 have hzb:∀ z∈zs,BytR (rdC w0 T) z.1 z.2:=λz hzm=>by
  obtain ⟨A,n,cp,e1,e2,e3,e4,e5⟩:=hz
  obtain ⟨i,hi⟩:=List.getElem?_of_mem hzm
  obtain ⟨g,o,q1,q2⟩:=e5 (by intro e; rw [e] at hzm; cases hzm)
  exact (q2 i z hi).2.le (rdC_le hRT)
 have hzs:∀ z∈zs,z.2.length≤256:=λz hzm=>by
  have h:=hb2.symm
  unfold fits at h
  rw [Bool.and_eq_true] at h
  have h2:=List.all_eq_true.1 h.2 z.2 (List.mem_map.2 ⟨z,hzm,rfl⟩)
  simpa using h2
 have hyT2:OpsY (rdC w0 T) y xs:=⟨hy.row,λz hz=>(hy.byt z hz).le (rdC_le hRT)⟩
 refine Sy.callT (λw hw=>runs_any E m hm hh w0.inn hTb gm s (.slice none 0 0) T zs y xs ⟨hs,hzb,hzs⟩ (by omega) hyT2 hyT hok hE' hxl w hw) (λu M hM=>?_)
 obtain ⟨s',r',k',N,rfl,rfl⟩:=hM
 refine sp rfl ?_
 refine sG<|Sy.ret ?_
 have er:run E p (zs.map (·.2))=exec E (xs.map (·.2)) (zs.map (·.2)) 0:=by unfold run; rw [if_neg (by rw [← he]; omega), ← hb2,if_pos rfl,hq]
 exact Sy.retT1 L rfl (.inl (show _=some (.int .i64 ((exec E (xs.map (·.2)) (zs.map (·.2)) 0:Nat):Int)) by kernel_rfl)) (λ_ h=>h.less (((hsub.trans (by rw [hT]; exact List.sublist_append_left _ _:List.Sublist L1 T)).trans (List.sublist_append_left T N)).trans ((List.sublist_append_right s'.bl _).trans (List.sublist_append_right _ _)))) ⟨by rw [er],rfl⟩
end Pg
end
section
namespace Pg
open Go.RowKit Sy
set_option maxRecDepth 100000
set_option maxHeartbeats 4000000
open Wr
section
variable {w0:Base} {n:Nat} {Q:Exit→Act→World→Prop} {F:Slots} {L:Blocks} {ops:Array Oper} {o:Oper} {l:List Oper}
theorem appB (hg:good ops n F o=true) (s x:Operand) (ho:o.op=.call { callee:=.builtin .append,args:=#[s,x],argTypes:=#[39,39] }) {y:Slc} {b b2:Byt} (hy:BS y b) (hs:evF F s=y.v) {A:Option Addr} {m cp:Nat} (hx:evF F x=.slice A m cp) {R:Blocks} (h2:BytR (rdC w0 R) (.slice A m cp) b2) (X:Blocks) (hL:L.Perm (X++(y.bl++[]))) (hR:∀ z∈R,z∈X) (hlen:b.length+b2.length≤70368744177664)
  (h:∀ y':Slc,BS y' (b++b2)→wpS Tryz.prog w0 n ops Q (putF F o.dst y'.v) (X++(y'.bl++[])) l):wpS Tryz.prog w0 n ops Q F L (o::l):=by
 have h20:=h2
 obtain ⟨A',m',cp',e,h3,h4,h5,h6⟩:=h2
 injection e with e1 e2 e3
 subst e1 e2 e3
 refine Sy.permS hL ?_
 exact Sy.appendM hg 39 5 _ _ 1 1 Tryz.underlying39 Cu.info_u8 rfl rfl rfl rfl (by decide) s x ho hy hs (byL_one b2) (byL_oneC b2) A m cp (by rw [byL_len,h3]) h4 hx (λr=>h20.from (λz hz=>List.mem_append_left _ (hR z hz))) (by rw [byL_len]; omega) (by rw [byL_len]; simp only [maxLen]; omega) (λy' hy'=>h y' (by
  show y'.Is 5 1 _
  rw [byL_app]
  exact hy'))
end
end Pg
end
section
namespace Pg
open Go.RowKit Sy
set_option maxRecDepth 100000
set_option maxHeartbeats 4000000
open Wr
def TxR (L:Blocks) (d:Byt) (v:Value) (M:Blocks):Prop:=∃ y:Slc,v=y.v∧M=L++y.bl∧BS y d
theorem BS.lit (g:Nat) (u:UInt8):BS ⟨.slice (some ⟨g,0,none⟩) 1 1,[(g,5,(([u]:Byt).map bv).toArray)]⟩ [u] :=
 Slc.Is.mk' (cs:=[bv u]) (byL_one [u]) (byL_oneC [u]) rfl rfl rfl (Nat.le_refl _) (by decide)
theorem same13_any (w:World) (v u:Value) (a b:Byt) (hv:BytR (rdW w) v a) (hu:BytR (rdW w) u b):Calls Tryz.prog 10 #[v,u] w (Gets w (.bool (decide (a=b)))):=by
 refine Sy.enter (args:=[v,u]) Tryz.func10 rfl kL ?_
 refine sC ?_
 refine sP (.bool false) ?_
 refine sA ?_
 refine sp rfl<|sS (.string ⟨a.toArray⟩) (strC _ rfl rfl (λw' hw=>hv.at hw))<|sp rfl<|sS (.string ⟨b.toArray⟩) (strC _ rfl rfl (λw' hw=>hu.at hw))<|sS (.bool (decide (a=b))) (Quiet.pure (λw=>eql_str w _ _ _ _ a b rfl rfl rfl))<|sp rfl ?_
 refine sG<|Sy.ret ?_
 exact rV (.bool (decide (a=b))) rfl
theorem blk_key {w0:Base} {X:Blocks} {g n:Nat} {t:TypeId} {k:Byt} (hX:(g,t,(k.map bv).toArray)∈X) (hk:k.length=n) (hn:n≤1000000):BytR (rdC w0 X) (.slice (some ⟨g,0,none⟩) n n) k:=byt_blk (λj v hv=>.inr ⟨_,_,hX,hv⟩) hk hn
theorem blk_row {w0:Base} {X:Blocks} {g:Nat} {t:TypeId} {k:Byt} (hX:(g,t,(k.map bv).toArray)∈X):XAt (rdC w0 X) g 0 (k.map bv):=λj u hu=>.inr ⟨_,_,hX,by rw [Nat.zero_add,List.getElem?_toArray]; exact hu⟩
theorem text13_any (w0:Base) (L:Blocks) (d:Byt) (hd:d.length=32) (w:World) (hw:St w0 w L):Calls Tryz.prog 7 #[.agg (d.map bv).toArray] w (Turns w0 (TxR L d)):=by
 have hml:(d.map bv).length=32:=by rw [List.length_map,hd]
 refine Sy.enterT (args:=[.agg (d.map bv).toArray]) hw Tryz.func7 rfl kL ?_
 refine sC ?_
 refine sM 27 (d.map bv).toArray (λg1=>?_) kR (λw=>run_boxR rfl rfl (by kernel_rfl) hml w)
 obtain ⟨X,hX⟩:∃ X,X=L++[(g1,27,(d.map bv).toArray)]:=⟨_,rfl⟩
 rw [← hX]
 have h1:(g1,27,(d.map bv).toArray)∈X:=by rw [hX]; simp
 refine sP (.slice none 0 0) ?_
 refine sA ?_
 refine sP (.slice none 0 0) ?_
 refine sG<|Sy.seq<|sC ?_
 refine sP (.int .i64 0) ?_
 refine sG<|Sy.block ?_
 refine Sy.loopT (Y:=Slc) 32 (λi y=>[(1,ptr g1),(3,y.v),(4,.int .i64 (i:Int))]) (λ_ y=>X++(y.bl++[])) (λi y=>BS y (d.take i)) nilS (by rw [List.take_zero]; exact Slc.Is.nil _ _) (all_cons kR (all_cons kR (all_cons kR all_nil))) (λw h=>by show St _ w (X++([]++[])); simpa using h) (λi y hi hy=>?_)
 refine Sy.seq<|sC ?_
 obtain ⟨b2,hb2⟩:∃ t_:Bool,t_=decide (i<32):=⟨_,rfl⟩
 refine sp rfl<|sS (.bool b2) (Quiet.pure (exec_int .lss _ _ _ .i64 _ _ _ rfl rfl rfl (int_lss _ _ _ _ _ (by rw [hb2]; exact decide_eq_decide.2 (by omega))))) ?_
 refine sG ?_
 cases b2
 case' false =>
  have l2:¬ i<32:=of_decide_eq_false hb2.symm
  rw [List.take_of_length_le (by omega)] at hy
  refine sU<|Sy.exit<|Sy.then_exit<|Sy.then_exit<|Sy.in_exit<|Sy.then_<|sC ?_
  refine sp rfl<|sp rfl ?_
  refine sG<|Sy.ret ?_
  exact Sy.retT1 (L++y.bl) rfl (.inl (show _=some y.v by kernel_rfl)) (λw h=>by
   rw [hX] at h
   exact (Sy.St.parts (ls:=[L,[(g1,27,(d.map bv).toArray)],y.bl]) (ms:=[L,y.bl]) [[(g1,27,(d.map bv).toArray)]] [0,2,1] kR rfl (by simp) (by simp) h)) ⟨y,rfl,rfl,hy⟩
 have l2:i<32:=of_decide_eq_true hb2.symm
 obtain ⟨u,hu⟩:∃ u,d[i]? = some u:=⟨_,List.getElem?_eq_getElem (by omega)⟩
 refine sT<|Sy.skip<|Sy.then_<|Sy.seq<|Sy.block<|Sy.region ?_
 refine sp rfl<|sp rfl<|sS (.pointer (some ⟨g1,0+i*1,none⟩)) (Quiet.pure (exec_atA 27 5 _ _ g1 0 32 i 1 .i64 rfl rfl rfl Tryz.underlying27 kF l2))<|sS (bv u) (cellC (R:=X) (by
  have:=blk_row (w0:=w0.inn) h1 i (bv u) (by rw [List.getElem?_map,hu]; rfl)
  rwa [← Nat.mul_one i] at this) (λb hb=>List.mem_append_left _ hb) rfl Tryz.underlying5) ?_
 refine Sy.make kR 5 (([u]:Byt).map bv).toArray (λg=>.slice (some ⟨g,0,none⟩) 1 1) kF (λg2=>?_)
 refine appB (y:=y) (b2:=[u]) (A:=some ⟨g2,0,none⟩) (m:=1) (cp:=1) (X:=X++[(g2,5,(([u]:Byt).map bv).toArray)]) (R:=X++[(g2,5,(([u]:Byt).map bv).toArray)]) kR _ _ rfl hy kR kR (blk_key (t:=5) (k:=[u]) (by simp) rfl (by decide)) (Sy.flat_perm (ls:=[X,y.bl,[(g2,5,(([u]:Byt).map bv).toArray)]]) (ms:=[X,[(g2,5,(([u]:Byt).map bv).toArray)],y.bl]) [0,2,1] kR rfl (by simp) (by simp)) (λ_ h=>h) (by rw [List.length_take]; simp; omega) (λy1 hy1=>?_)
 refine sp rfl ?_
 refine Sy.nil<|Sy.in_<|Sy.then_<|Sy.region ?_
 refine sp rfl<|sS (.int .i64 ((i+1:Nat):Int)) (Quiet.pure (exec_int .add _ _ _ .i64 _ _ _ rfl rfl rfl (int_add _ _ _ _ _ ((wrap_i64 (by omega) (by omega)).trans (by omega)))))<|sp rfl ?_
 refine Sy.nil ?_
 exact Sy.againT y1 l2 (by
  show BS y1 (d.take (i+1))
  rw [List.take_add_one,hu]
  exact hy1) (all_cons kR (all_cons kR (all_cons kR all_nil))) (λw h=>(Sy.St.parts (ls:=[X,[(g2,5,(([u]:Byt).map bv).toArray)],y1.bl]) (ms:=[X,y1.bl]) [[(g2,5,(([u]:Byt).map bv).toArray)]] [0,2,1] kR rfl (by simp) (by simp) h))
theorem pushing_any (w0:Base) (L:Blocks) (k:Byt) (hk:k.length=32) (w:World) (hw:St w0 w L):Calls Tryz.prog 17 #[.agg (k.map bv).toArray] w (Turns w0 (TxR L (32::k))):=by
 have hml:(k.map bv).length=32:=by rw [List.length_map,hk]
 refine Sy.enterT (args:=[.agg (k.map bv).toArray]) hw Tryz.func17 rfl kL ?_
 refine sC ?_
 refine sM 31 (k.map bv).toArray (λg1=>?_) kR (λw=>run_boxR rfl rfl (by kernel_rfl) hml w)
 refine sP (.slice none 0 0) ?_
 refine sA ?_
 refine Sy.make kR 5 (([32]:Byt).map bv).toArray (λg=>.slice (some ⟨g,0,none⟩) 1 1) kF (λg2=>?_)
 refine sP (.slice (some ⟨g1,0,none⟩) 32 32) ?_
 refine appB (y:=⟨.slice (some ⟨g2,0,none⟩) 1 1,[(g2,5,(([32]:Byt).map bv).toArray)]⟩) (b:=[32]) (b2:=k) (A:=some ⟨g1,0,none⟩) (m:=32) (cp:=32) (X:=L++[(g1,31,(k.map bv).toArray)]) (R:=L++[(g1,31,(k.map bv).toArray)]) kR _ _ rfl (BS.lit g2 32) kR kR (blk_key (t:=31) (k:=k) (by simp) hk (by decide)) (List.Perm.of_eq (by simp)) (λ_ h=>h) (by simp; omega) (λy1 hy1=>?_)
 refine sp rfl ?_
 refine sG<|Sy.ret ?_
 exact Sy.retT1 (L++y1.bl) rfl (.inl (show _=some y1.v by kernel_rfl)) (λw h=>(Sy.St.parts (ls:=[L,[(g1,31,(k.map bv).toArray)],y1.bl]) (ms:=[L,y1.bl]) [[(g1,31,(k.map bv).toArray)]] [0,2,1] kR rfl (by simp) (by simp) h)) ⟨y1,rfl,rfl,hy1⟩
end Pg
end
section
section
open Go.ChangeShapes Go.WideShapes Go.ChangeAt Go.RowKit
section
variable {H:Type} {enc:TypeId×Value→H} {P:Program}
end
theorem u64_wf {n:Int} (h:(Lit.int .u64 n).wf=true):∃ m:Nat,n=(m:Int)∧m<18446744073709551616:=by
 have hz:0≤n∧n<18446744073709551616:=by
  simp [Lit.wf,IntKind.bits,IntKind.signed,IntKind.min,IntKind.max] at h
  omega
 exact ⟨n.toNat,by omega,by omega⟩
end
end
section
namespace Pg
open Go.RowKit Sy
set_option maxRecDepth 100000
set_option maxHeartbeats 4000000
open Wr
open Go.ChangeShapes Go.WideShapes Go.ChangeAt Go.Deep
def repL {α:Type} (k:Nat) (rep:Rdr→List Value→α→Prop) (C:Rdr) (cs:List Value) (l:List α):Prop:=∃ v,cs=[v]∧LstR C k rep v l
theorem bulk_pos {H:Type} (d:DataW H):1≤Rows.uptoBulk d:=by
 cases d with
 | lit l=>cases l <;> simp [Rows.uptoBulk]
 | _=>simp [Rows.uptoBulk]
theorem bulk_app {H:Type}:∀ a b:List (DataW H),Rows.uptoBulkAll (a++b)=Rows.uptoBulkAll a+Rows.uptoBulkAll b
 | [],b=>by simp [Rows.uptoBulkAll]
 | d::a,b=>by
  have h:=bulk_app a b
  simp only [List.cons_append,Rows.uptoBulkAll]
  omega
theorem cells_at {W:World} {base:Nat} {a:Addr} {n:Nat} {cs:List Value} (h:W.cells? base a n=some cs):∀ (j:Nat) (v:Value),cs[j]? = some v→W.cell? (a.add j)=some v:=λj v hj=>by
 unfold World.cells? at h
 split at h
 ·have hl:=Lib.mapM_length h
  have hjl:j<n:=by
   have:=(List.getElem?_eq_some_iff.1 hj).1
   simp at hl
   omega
  obtain ⟨b,hb,hf⟩:=Lib.mapM_at h j j (by simp [hjl])
  rw [hb] at hj
  injection hj with hj
  rw [hf,hj]
 ·cases h
theorem cells_ln {W:World} {base:Nat} {a:Addr} {n:Nat} {cs:List Value} (h:W.cells? base a n=some cs):cs.length=n:=by
 unfold World.cells? at h
 split at h
 ·have hl:=Lib.mapM_length h
  simpa using hl
 ·cases h
theorem cell_in {w:World} {a:Addr} {v:Value} (h:w.cell? a=some v):∃ b o,a=⟨b,o,none⟩∧b<w.heap.size:=by
 obtain ⟨b,o,k⟩:=a
 unfold World.cell? at h
 cases k with
 | none =>
  refine ⟨b,o,rfl,?_⟩
  rcases Nat.lt_or_ge b w.heap.size with hl | hl
  ·exact hl
  ·simp [Array.getElem?_eq_none hl] at h
 | some k=>exfalso; cases hw:w.heap[b]? with
  | none=>simp [hw] at h
  | some ob=>cases ob <;> simp [hw] at h
theorem add_in (b o n:Nat):(⟨b,o,none⟩:Addr).add n=⟨b,o+n,none⟩:=by unfold Addr.add; split <;> simp_all
theorem list_of {α H:Type} {n:Nat} {p:Nat→α→Prop} {sz:α→Nat} {D:Nat→DataW H} (h:∀ i,i<n→∃ x,p i x∧sz x<Rows.uptoBulk (D i)):∃ l:List α,l.length=n∧(∀ i x,l[i]? = some x→p i x)∧l.length+(l.map sz).sum≤Rows.uptoBulkAll ((List.range n).map D):=by
 induction n with
 | zero=>exact ⟨[],rfl,λi x h=>(by cases h),Nat.zero_le _⟩
 | succ n ih =>
  obtain ⟨l,h1,h2,h3⟩:=ih λi hi=>h i (by omega)
  obtain ⟨x,hx,hs⟩:=h n (by omega)
  refine ⟨l++[x],by rw [List.length_append,h1]; rfl,λi y hy=>?_,?_⟩
  ·rcases Nat.lt_or_ge i l.length with hi | hi
   ·rw [List.getElem?_append_left hi] at hy
    exact h2 i y hy
   ·rw [List.getElem?_append_right hi] at hy
    cases hk:i - l.length with
    | zero =>
     rw [hk] at hy
     cases hy
     obtain rfl:i=n:=by omega
     exact hx
    | succ k=>rw [hk] at hy; cases hy
  ·simp only [List.range_succ,List.map_append,bulk_app,List.sum_append,List.length_append,List.map_cons,List.map_nil,List.sum_cons,List.sum_nil,List.length_cons,List.length_nil,Rows.uptoBulkAll]
   omega
structure Opng {α:Type} (t:TypeId) (k:Nat) (rep:Rdr→List Value→α→Prop) (sz:α→Nat):Prop where
 go:∀ {H:Type} {enc:TypeId×Value→H} {W:World} {fuel:Nat} {cs:List Value} {x:DataW H×List MemPlace},cs.length=k→DataW.trod enc Tryz.prog W 0 (λ_=>true) true fuel t cs=some x→∃ y,rep (rdW W) cs y∧(∀ u∈cs,u.oneCell'=true)∧sz y<Rows.uptoBulk x.1
theorem Opng.as {α β:Type} {t:TypeId} {k:Nat} {rep:Rdr→List Value→α→Prop} {sz:α→Nat} {rep':Rdr→List Value→β→Prop} {sz':β→Nat} (h:Opng t k rep sz) (hr:∀ C cs x,rep C cs x→∃ y,rep' C cs y∧sz' y≤sz x):Opng t k rep' sz':=⟨λhl hf=>by
 obtain ⟨x,h1,h2,h3⟩:=h.go hl hf
 obtain ⟨y,h4,h5⟩:=hr _ _ _ h1
 exact ⟨y,h4,h2,by omega⟩⟩
def repB (_:Rdr) (cs:List Value) (b:Bool):Prop:=cs=[.bool b]
def repN (n:Nat) (_:Rdr) (cs:List Value) (b:Byt):Prop:=cs=b.map bv∧b.length=n
theorem opn_b {t:TypeId} (ht:Tryz.prog.underlying t=some .bool):Opng t 1 repB (λ_=>0):=⟨λhl hf=>by
 obtain ⟨z,rfl,hx⟩:=DataW.trod_bool ht hf
 exact ⟨z,rfl,λu hu=>by rw [List.mem_singleton.1 hu]; rfl,bulk_pos _⟩⟩
theorem opn_l {α:Type} {t e:TypeId} {k:Nat} {rep:Rdr→List Value→α→Prop} {sz:α→Nat} (ht:Tryz.prog.underlying t=some (.slice e)) (hce:Tryz.prog.cellsOf e=k) (hk:0<k) (h:Opng e k rep sz):Opng t 1 (repL k rep) (λl=>l.length+(l.map sz).sum):=⟨λ{H enc W fuel cs x} hl hf=>by
 rcases open_slice ht hf with ⟨rfl,hx⟩ | ⟨a,len,cap,m,n,D,Pl,rfl,_,hlc,hm,hme,hx,hall⟩
 ·exact ⟨[],⟨_,rfl,none,0,0,rfl,rfl,Nat.le_refl _,Nat.zero_le _,λh=>(h rfl).elim⟩,λu hu=>by rw [List.mem_singleton.1 hu]; rfl,bulk_pos _⟩
 ·simp only [if_true] at hme
  subst hme
  rw [hce] at hall
  obtain ⟨l,l1,l2,l3⟩:=list_of (α:=α) (n:=len) (sz:=sz) (D:=D) (p:=λi y=>∃ cs',W.cells? 0 (a.add (i*k)) k=some cs'∧rep (rdW W) cs' y∧∀ u∈cs',u.oneCell'=true) (λi hi=>by
   obtain ⟨cs',h1,h2⟩:=hall i (by omega)
   obtain ⟨y,q1,q2,q3⟩:=h.go (cells_ln h1) h2
   exact ⟨y,⟨cs',h1,q1,q2⟩,q3⟩)
  refine ⟨l,⟨_,rfl,some a,len,m,rfl,l1,hlc,hm,λhne=>?_⟩,λu hu=>by rw [List.mem_singleton.1 hu]; rfl,?_⟩
  ·have hpos:0<l.length:=List.length_pos_iff.2 hne
   obtain ⟨cs0,c1,c2,c3⟩:=l2 0 l[0] (List.getElem?_eq_getElem hpos)
   have c4:=cells_ln c1
   have hcell:=cells_at c1 0 cs0[0] (List.getElem?_eq_getElem (by omega))
   have e0:(a.add (0*k)).add 0=a:=by simp [Addr.add]
   rw [e0] at hcell
   obtain ⟨b,o,rfl,hlt⟩:=cell_in hcell
   refine ⟨b,o,rfl,λj y hy=>?_⟩
   obtain ⟨cs',d1,d2,d3⟩:=l2 j y hy
   refine ⟨cs',cells_ln d1,d3,d2,λi v hi=>⟨hlt,?_⟩⟩
   have:=cells_at d1 i v hi
   rwa [add_in,add_in] at this
  ·subst hx
   simp only [Rows.uptoBulk]
   omega⟩
theorem arg_v {α:Type} {t e:TypeId} {rep:Rdr→List Value→α→Prop} {sz:α→Nat} (h:Opng t 1 rep sz) (ht:Tryz.prog.underlying t=some (.slice e)) {H:Type} {enc:TypeId×Value→H} {W:World} {r:Reach} {b0:Nat} {v:Value} {d:DataW H} {ps:List MemPlace} (hval:Value.okWide Tryz.prog W r b0 t v) (hT:DataW.Trod enc Tryz.prog W 0 (λ_=>true) true t v d ps) :
  ∃ y,rep (rdW W) [v] y∧sz y<Rows.uptoBulk d:=by
 obtain ⟨A,n,c,rfl⟩:=okWide_slice ht hval
 obtain ⟨fuel,hf⟩:=hT
 obtain ⟨y,h1,_,h3⟩:=h.go rfl (show DataW.trod enc Tryz.prog W 0 (λ_=>true) true fuel t [.slice A n c]=some (d,ps) by simpa [Value.cells] using hf)
 exact ⟨y,h1,h3⟩
end Pg
end
section
namespace Pg
open Go.RowKit Sy
set_option maxRecDepth 100000
set_option maxHeartbeats 4000000
open Wr
theorem conv_iu8 (w:World) (F:Slots) (o:Oper) (x:Operand) (k:Nat) (hk:k<256) (ho:o.op=.convert 3 5 x) (hx:evF F x=.int .i64 (k:Int)):(execOp (evF F) o).run Tryz.prog w=.ok (.value (bv (UInt8.ofNat k))) w:=by
 have h:(convert 3 5 (.int .i64 (k:Int))).run Tryz.prog w=.ok (bv (UInt8.ofNat k)) w:=by
  have e:(UInt8.ofNat k).toNat=k%256:=by rw [UInt8.toNat_ofNat']
  unfold bv
  rw [e]
  go_simp
  show (k:Int)%256=((k%256:Nat):Int)
  omega
 unfold execOp
 simp only [ho,hx,Sem.run_bind,h,Result.andThen_ok,Sem.run_pure]
def keysB (l:List Byt):Byt:=l.flatMap λk=>32::k
theorem keysB_app (a b:List Byt):keysB (a++b)=keysB a++keysB b:=List.flatMap_append
theorem keysB_len {l:List Byt} (h:∀ k∈l,k.length=32):(keysB l).length=33*l.length:=by
 induction l with
 | nil=>rfl
 | cons k l ih =>
  have e:keysB (k::l)=(32::k)++keysB l:=rfl
  rw [e,List.length_append,List.length_cons,h k (List.mem_cons_self ..),ih λx hx=>h x (List.mem_cons_of_mem _ hx),List.length_cons]
  omega
def okSh (T:Int) (n:Nat):Bool:=decide (1≤T) && (decide (T≤(n:Int)) && decide (33*n+3≤256))
def shareB (T:Int) (l:List Byt):Byt:=keysB l++[104,UInt8.ofNat T.toNat,UInt8.ofNat l.length]
def shB (T:Int) (l:List Byt):Byt:=if okSh T l.length then shareB T l else []
def shE (T:Int) (l:List Byt):Int:=if okSh T l.length then 0 else 1
def ShR (L:Blocks) (T:Int) (l:List Byt) (v:Value) (M:Blocks):Prop:=∃ y:Slc,v=.tuple #[y.v,.int .i64 (shE T l)]∧M=L++y.bl∧BS y (shB T l)
theorem ShR.no {L:Blocks} {T:Int} {l:List Byt} (h:okSh T l.length=false):ShR L T l (.tuple #[.slice none 0 0,.int .i64 1]) L:=⟨nilS,by unfold shE; rw [if_neg (by rw [h]; decide)]; rfl,(List.append_nil _).symm,by unfold shB; rw [if_neg (by rw [h]; decide)]; exact Slc.Is.nil _ _⟩
theorem share_any (w0:Base) (L R:Blocks) (hR:∀ b∈R,b∈L) (T:Int) (kv:Value) (keys:List Byt) (hk:LstR (rdC w0 R) 32 (repN 32) kv keys) (hn:keys.length≤1048576) (w:World) (hw:St w0 w L):Calls Tryz.prog 8 #[.agg #[.int .i64 T,kv]] w (Turns w0 (ShR L T keys)):=by
 obtain ⟨kA,kn,kc,rfl,k2,k3,k4,k5⟩:=hk
 have hkm:kc<9223372036854775808:=by simp only [maxLen] at k4; omega
 have hkl:∀ k∈keys,k.length=32:=λk hk=>by
  obtain ⟨i,hi⟩:=List.getElem?_of_mem hk
  obtain ⟨g,o,_,hq⟩:=k5 (by intro e; rw [e] at hk; cases hk)
  obtain ⟨cs,_,_,⟨_,c3⟩,_⟩:=hq i k hi
  exact c3
 refine Sy.enterT (args:=[.agg #[.int .i64 T,.slice kA kn kc]]) hw Tryz.func8 rfl kL ?_
 refine sC ?_
 refine sM 45 #[.int .i64 T,.slice kA kn kc] (λg1=>?_)
 obtain ⟨X,hX⟩:∃ X,X=L++[(g1,45,#[.int .i64 T,.slice kA kn kc])]:=⟨_,rfl⟩
 rw [← hX]
 have h1:(g1,45,#[.int .i64 T,.slice kA kn kc])∈X:=by rw [hX]; simp
 have hRX:∀ b∈R,b∈X:=λb hb=>by rw [hX]; exact List.mem_append_left _ (hR b hb)
 have c0:rdC w0 X g1 0 (.int .i64 T):=.inr ⟨_,_,h1,rfl⟩
 have c1:rdC w0 X g1 1 (.slice kA kn kc):=.inr ⟨_,_,h1,rfl⟩
 refine sP (.slice none 0 0)<|sP (.int .i64 0) ?_
 refine sA ?_
 refine sP (.pointer (some ⟨g1,1,none⟩))<|sS (.slice kA kn kc) (cellC (R:=X) c1 (λ_ h=>h) rfl Tryz.underlying24)<|sP (.int .i64 (kn:Int))<|sp rfl ?_
 refine sG<|Sy.seq<|sC ?_
 obtain ⟨b1,hb1⟩:∃ t_:Bool,t_=decide (T<1):=⟨_,rfl⟩
 refine sP (.pointer (some ⟨g1,0,none⟩))<|sS (.int .i64 T) (cellC (R:=X) c0 (λ_ h=>h) rfl Tryz.underlying3)<|sS (.bool b1) (Quiet.pure (exec_int .lss _ _ _ .i64 _ _ _ rfl rfl rfl (int_lss _ _ _ _ _ hb1.symm)))<|sp rfl ?_
 cases b1
 case' true =>
  have l1:T<1:=of_decide_eq_true hb1.symm
  refine sN<|sN<|sN<|sN<|sP (.bool true)<|sp rfl<|sN<|sN<|sN<|sN<|sN<|sP (.bool true) ?_
  refine sG<|sT<|sC ?_
  refine sP (.slice none 0 0)<|sP (.int .i64 1) ?_
  refine sG<|Sy.ret<|Sy.then_ret ?_
  exact Sy.retT2 L rfl (.inl (show _=some (.slice none 0 0) by kernel_rfl)) (.inl (show _=some (.int .i64 1) by kernel_rfl)) (λ_ h=>h.less (by rw [hX]; exact List.sublist_append_left _ _)) (ShR.no (by unfold okSh; rw [decide_eq_false (p:=1≤T) (by omega)]; rfl))
 have l1:¬ T<1:=of_decide_eq_false hb1.symm
 obtain ⟨b2,hb2⟩:∃ t_:Bool,t_=decide ((kn:Int)<T):=⟨_,rfl⟩
 refine sP (.pointer (some ⟨g1,0,none⟩))<|sS (.int .i64 T) (cellC (R:=X) c0 (λ_ h=>h) rfl Tryz.underlying3)<|sp rfl<|sS (.bool b2) (Quiet.pure (exec_int .gtr _ _ _ .i64 _ _ _ rfl rfl rfl (int_gtr _ _ _ _ _ (by rw [hb2]))))<|sP (.bool b2)<|sp rfl ?_
 cases b2
 case' true =>
  have l2:(kn:Int)<T:=of_decide_eq_true hb2.symm
  refine sN<|sN<|sN<|sN<|sN<|sP (.bool true) ?_
  refine sG<|sT<|sC ?_
  refine sP (.slice none 0 0)<|sP (.int .i64 1) ?_
  refine sG<|Sy.ret<|Sy.then_ret ?_
  exact Sy.retT2 L rfl (.inl (show _=some (.slice none 0 0) by kernel_rfl)) (.inl (show _=some (.int .i64 1) by kernel_rfl)) (λ_ h=>h.less (by rw [hX]; exact List.sublist_append_left _ _)) (ShR.no (by unfold okSh; rw [decide_eq_false (p:=T≤(keys.length:Int)) (by omega)]; simp))
 have l2:¬ (kn:Int)<T:=of_decide_eq_false hb2.symm
 obtain ⟨b3,hb3⟩:∃ t_:Bool,t_=decide (256<33*kn+3):=⟨_,rfl⟩
 refine sp rfl<|sS (.int .i64 ((33*kn:Nat):Int)) (Quiet.pure (exec_int .mul _ _ _ .i64 _ _ _ rfl rfl rfl (int_mul _ _ _ _ _ ((wrap_i64 (by omega) (by omega)).trans (by omega)))))<|sS (.int .i64 ((33*kn+1:Nat):Int)) (Quiet.pure (exec_int .add _ _ _ .i64 _ _ _ rfl rfl rfl (int_add _ _ _ _ _ ((wrap_i64 (by omega) (by omega)).trans (by omega)))))<|sS (.int .i64 ((33*kn+3:Nat):Int)) (Quiet.pure (exec_int .add _ _ _ .i64 _ _ _ rfl rfl rfl (int_add _ _ _ _ _ ((wrap_i64 (by omega) (by omega)).trans (by omega)))))<|sS (.bool b3) (Quiet.pure (exec_int .gtr _ _ _ .i64 _ _ _ rfl rfl rfl (int_gtr _ _ _ _ _ (by rw [hb3]; exact decide_eq_decide.2 (by omega)))))<|sP (.bool b3) ?_
 cases b3
 case' true =>
  have l3:256<33*kn+3:=of_decide_eq_true hb3.symm
  refine sG<|sT<|sC ?_
  refine sP (.slice none 0 0)<|sP (.int .i64 1) ?_
  refine sG<|Sy.ret<|Sy.then_ret ?_
  exact Sy.retT2 L rfl (.inl (show _=some (.slice none 0 0) by kernel_rfl)) (.inl (show _=some (.int .i64 1) by kernel_rfl)) (λ_ h=>h.less (by rw [hX]; exact List.sublist_append_left _ _)) (ShR.no (by unfold okSh; rw [decide_eq_false (p:=33*keys.length+3≤256) (by omega)]; simp))
 have l3:¬ 256<33*kn+3:=of_decide_eq_false hb3.symm
 have hok:okSh T keys.length=true:=by
  unfold okSh
  rw [decide_eq_true (p:=1≤T) (by omega),decide_eq_true (p:=T≤(keys.length:Int)) (by omega),decide_eq_true (p:=33*keys.length+3≤256) (by omega)]; rfl
 refine sG<|sU<|Sy.skip<|Sy.then_<|sC ?_
 refine sP (.slice none 0 0) ?_
 refine sG<|Sy.seq<|sC ?_
 refine sP (.pointer (some ⟨g1,1,none⟩))<|sS (.slice kA kn kc) (cellC (R:=X) c1 (λ_ h=>h) rfl Tryz.underlying24)<|sP (.int .i64 (kn:Int))<|sP (.int .i64 0) ?_
 refine sG<|Sy.block ?_
 refine Sy.loopT (Y:=Slc) kn (λi y=>[(1,ptr g1),(4,.int .i64 (kn:Int)),(5,y.v),(28,.slice kA kn kc),(29,.int .i64 (kn:Int)),(30,.int .i64 (i:Int))]) (λ_ y=>X++(y.bl++[])) (λi y=>BS y (keysB (keys.take i))) nilS (by rw [List.take_zero]; exact Slc.Is.nil _ _) (all_cons kR (all_cons kR (all_cons kR (all_cons kR (all_cons kR (all_cons kR all_nil)))))) (λw h=>by show St _ w (X++([]++[])); simpa using h) (λi y hi hy=>?_)
 refine sC ?_
 obtain ⟨b4,hb4⟩:∃ t_:Bool,t_=decide (i<kn):=⟨_,rfl⟩
 refine sS (.bool b4) (Quiet.pure (exec_int .lss _ _ _ .i64 _ _ _ rfl rfl rfl (int_lss _ _ _ _ _ (by rw [hb4]; exact decide_eq_decide.2 (by omega))))) ?_
 refine sG<|Sy.seq ?_
 cases b4
 case' false =>
  have l4:¬ i<kn:=of_decide_eq_false hb4.symm
  rw [List.take_of_length_le (by omega)] at hy
  have hyl:(keysB keys).length=33*kn:=by rw [keysB_len hkl,k2]
  obtain ⟨t,ht⟩:∃ t:Nat,t=T.toNat:=⟨_,rfl⟩
  have hTt:T=(t:Int):=by omega
  refine sU<|Sy.exit<|Sy.then_exit<|Sy.then_exit<|Sy.in_exit<|Sy.then_<|sC ?_
  refine sp rfl<|sP (.pointer (some ⟨g1,0,none⟩))<|sS (.int .i64 T) (cellC (R:=X) c0 (λb hb=>List.mem_append_left _ hb) rfl Tryz.underlying3)<|sS (bv (UInt8.ofNat t)) (Quiet.pure (λw=>conv_iu8 w _ _ _ t (by omega) rfl (by rw [← hTt]; rfl)))<|sp rfl<|sS (bv (UInt8.ofNat kn)) (Quiet.pure (λw=>conv_iu8 w _ _ _ kn (by omega) rfl rfl)) ?_
  refine Sy.make kR 5 (([104,UInt8.ofNat t,UInt8.ofNat kn]:Byt).map bv).toArray (λg=>.slice (some ⟨g,0,none⟩) 3 3) kF (λg3=>?_)
  refine appB (y:=y) (b2:=[104,UInt8.ofNat t,UInt8.ofNat kn]) (A:=some ⟨g3,0,none⟩) (m:=3) (cp:=3) (X:=X++[(g3,5,(([104,UInt8.ofNat t,UInt8.ofNat kn]:Byt).map bv).toArray)]) (R:=X++[(g3,5,(([104,UInt8.ofNat t,UInt8.ofNat kn]:Byt).map bv).toArray)]) kR _ _ rfl hy kR kR (blk_key (t:=5) (k:=[104,UInt8.ofNat t,UInt8.ofNat kn]) (by simp) rfl (by decide)) (Sy.flat_perm (ls:=[X,y.bl,[(g3,5,(([104,UInt8.ofNat t,UInt8.ofNat kn]:Byt).map bv).toArray)]]) (ms:=[X,[(g3,5,(([104,UInt8.ofNat t,UInt8.ofNat kn]:Byt).map bv).toArray)],y.bl]) [0,2,1] kR rfl (by simp) (by simp)) (λ_ h=>h) (by rw [hyl]; simp; omega) (λy1 hy1=>?_)
  refine sp rfl<|sP (.int .i64 0) ?_
  refine sG<|Sy.ret ?_
  exact Sy.retT2 (L++y1.bl) rfl (.inl (show _=some y1.v by kernel_rfl)) (.inl (show _=some (.int .i64 0) by kernel_rfl)) (λw h=>by
   rw [hX] at h
   exact (Sy.St.parts (ls:=[L,[(g1,45,#[.int .i64 T,.slice kA kn kc])],[(g3,5,(([104,UInt8.ofNat t,UInt8.ofNat kn]:Byt).map bv).toArray)],y1.bl]) (ms:=[L,y1.bl]) [[(g1,45,#[.int .i64 T,.slice kA kn kc])],[(g3,5,(([104,UInt8.ofNat t,UInt8.ofNat kn]:Byt).map bv).toArray)]] [0,3,1,2] kR rfl (by simp) (by simp) h)) ⟨y1,by unfold shE; rw [if_pos hok],rfl,by unfold shB; rw [if_pos hok]; unfold shareB; rw [← ht,k2]; exact hy1⟩
 have l4:i<kn:=of_decide_eq_true hb4.symm
 obtain ⟨k,hki⟩:∃ k,keys[i]? = some k:=⟨_,List.getElem?_eq_getElem (by omega)⟩
 obtain ⟨ga,oa,rfl,hq⟩:=k5 (by intro e; rw [e] at hki; cases hki)
 obtain ⟨cs,q1,q2,⟨rfl,q3⟩,q4⟩:=hq i k hki
 have htk:keysB (keys.take (i+1))=keysB (keys.take i)++(32::k):=by
  rw [List.take_add_one,hki,keysB_app]
  congr 1
  show (32::k)++[]=_
  rw [List.append_nil]
 have hyl:(keysB (keys.take i)).length≤33*kn:=by
  rw [keysB_len (λk hk=>hkl k (List.mem_of_mem_take hk)),List.length_take]; omega
 refine sT<|Sy.skip<|Sy.then_<|Sy.seq<|Sy.block<|sC ?_
 refine sS (.pointer (some ⟨ga,oa+i*32,none⟩)) (Quiet.pure (exec_at 24 31 _ _ ga oa kn kc i 32 .i64 rfl rfl rfl Tryz.underlying24 kF l4))<|sS (.agg (k.map bv).toArray) (rowC (R:=X) (cs:=k.map bv) (q4.le (rdC_le hRX)) (λb hb=>List.mem_append_left _ hb) q1 rfl Tryz.underlying31) ?_
 refine sM 31 ((List.replicate 32 (0:UInt8)).map bv).toArray (λg7=>?_)
 refine Sy.permS (M:=[(g7,31,((List.replicate 32 (0:UInt8)).map bv).toArray)]++(X++(y.bl++[]))) (Sy.flat_perm (ls:=[X,y.bl,[(g7,31,((List.replicate 32 (0:UInt8)).map bv).toArray)]]) (ms:=[[(g7,31,((List.replicate 32 (0:UInt8)).map bv).toArray)],X,y.bl]) [2,0,1] kR rfl (by simp) (by simp)) ?_
 refine sw 0 rfl (k.map bv).toArray (Writes.row 31 (k.map bv) 32 _ _ rfl kR kR kR q1 (by simp) q2) ?_
 refine Sy.permS (M:=[(g7,31,(k.map bv).toArray)]++(X++(y.bl++[]))) (List.Perm.of_eq rfl) ?_
 refine sG<|Sy.region ?_
 refine sp rfl<|sS (.agg (k.map bv).toArray) (rowC (R:=[(g7,31,(k.map bv).toArray)]) (cs:=k.map bv) (blk_row (t:=31) (List.mem_singleton.2 rfl)) (λb hb=>List.mem_append_left _ hb) q1 rfl Tryz.underlying31) ?_
 refine Sy.callT (λw hw=>pushing_any w0.inn _ k q3 w hw) (λu M hM=>?_)
 obtain ⟨y2,rfl,rfl,hy2⟩:=hM
 obtain ⟨tA,tc,tv,tl,_⟩:=Slc_from (w0:=w0.inn) (L:=y2.bl) hy2 (λ_ h=>h)
 have hytb:BytR (rdC w0 (([(g7,31,(k.map bv).toArray)]++X)++y2.bl)) (.slice tA (32::k).length tc) (32::k):=by
  have:=(Slc_byt hy2).le (λg o v hv=>(.inr (rdB_le (λb hb=>List.mem_append_right ([(g7,31,(k.map bv).toArray)]++X) hb) g o v hv):rdC w0 (([(g7,31,(k.map bv).toArray)]++X)++y2.bl) g o v))
  rw [tv,byL_len] at this
  exact this
 rw [byL_len] at tv
 rw [tv]
 refine appB (y:=y) (b2:=32::k) (A:=tA) (m:=(32::k).length) (cp:=tc) (X:=([(g7,31,(k.map bv).toArray)]++X)++y2.bl) (R:=([(g7,31,(k.map bv).toArray)]++X)++y2.bl) kR _ _ rfl hy kR kR hytb (Sy.flat_perm (ls:=[[(g7,31,(k.map bv).toArray)],X,y.bl,y2.bl]) (ms:=[[(g7,31,(k.map bv).toArray)],X,y2.bl,y.bl]) [0,1,3,2] kR rfl (by simp) (by simp)) (λ_ h=>h) (by rw [List.length_cons]; omega) (λy1 hy1=>?_)
 refine sp rfl ?_
 refine Sy.nil<|Sy.in_<|Sy.then_<|Sy.region ?_
 refine sS (.int .i64 ((i+1:Nat):Int)) (Quiet.pure (exec_int .add _ _ _ .i64 _ _ _ rfl rfl rfl (int_add _ _ _ _ _ ((wrap_i64 (by omega) (by omega)).trans (by omega)))))<|sp rfl ?_
 refine Sy.nil ?_
 exact Sy.againT y1 l4 (by
  show BS y1 (keysB (keys.take (i+1)))
  rw [htk]
  exact hy1) (all_cons kR (all_cons kR (all_cons kR (all_cons kR (all_cons kR (all_cons kR all_nil)))))) (λw h=>(Sy.St.parts (ls:=[[(g7,31,(k.map bv).toArray)],X,y2.bl,y1.bl]) (ms:=[X,y1.bl]) [[(g7,31,(k.map bv).toArray)],y2.bl] [1,3,0,2] kR rfl (by simp) (by simp) h))
end Pg
end
section
namespace Pg
open Go.RowKit Sy
set_option maxRecDepth 100000
set_option maxHeartbeats 4000000
open Wr
theorem share13_any (w0:Base) (L R:Blocks) (hR:∀ b∈R,b∈L) (T:Int) (kv:Value) (keys:List Byt) (hk:LstR (rdC w0 R) 32 (repN 32) kv keys) (hn:keys.length≤1048576) (w:World) (hw:St w0 w L):Calls Tryz.prog 9 #[.agg #[.int .i64 T,kv]] w (Turns w0 (ShR L T keys)):=by
 obtain ⟨kA,kn,kc,rfl,k2,k3,k4,k5⟩:=hk
 have hkm:kc<9223372036854775808:=by simp only [maxLen] at k4; omega
 have hkl:∀ k∈keys,k.length=32:=λk hk=>by
  obtain ⟨i,hi⟩:=List.getElem?_of_mem hk
  obtain ⟨g,o,_,hq⟩:=k5 (by intro e; rw [e] at hk; cases hk)
  obtain ⟨cs,_,_,⟨_,c3⟩,_⟩:=hq i k hi
  exact c3
 refine Sy.enterT (args:=[.agg #[.int .i64 T,.slice kA kn kc]]) hw Tryz.func9 rfl kL ?_
 refine sC ?_
 refine sM 45 #[.int .i64 T,.slice kA kn kc] (λg1=>?_)
 obtain ⟨X,hX⟩:∃ X,X=L++[(g1,45,#[.int .i64 T,.slice kA kn kc])]:=⟨_,rfl⟩
 rw [← hX]
 have h1:(g1,45,#[.int .i64 T,.slice kA kn kc])∈X:=by rw [hX]; simp
 have hRX:∀ b∈R,b∈X:=λb hb=>by rw [hX]; exact List.mem_append_left _ (hR b hb)
 have c0:rdC w0 X g1 0 (.int .i64 T):=.inr ⟨_,_,h1,rfl⟩
 have c1:rdC w0 X g1 1 (.slice kA kn kc):=.inr ⟨_,_,h1,rfl⟩
 refine sP (.slice none 0 0)<|sP (.int .i64 0) ?_
 refine sG<|Sy.seq<|sC ?_
 obtain ⟨b1,hb1⟩:∃ t_:Bool,t_=decide (T<1):=⟨_,rfl⟩
 refine sP (.pointer (some ⟨g1,0,none⟩))<|sS (.int .i64 T) (cellC (R:=X) c0 (λ_ h=>h) rfl Tryz.underlying3)<|sS (.bool b1) (Quiet.pure (exec_int .lss _ _ _ .i64 _ _ _ rfl rfl rfl (int_lss _ _ _ _ _ hb1.symm)))<|sp rfl ?_
 cases b1
 case' true =>
  have l1:T<1:=of_decide_eq_true hb1.symm
  refine sN<|sN<|sN<|sN<|sN<|sN<|sP (.bool true)<|sp rfl<|sN<|sN<|sN<|sN<|sN<|sN<|sP (.bool true) ?_
  refine sG<|sT<|sC ?_
  refine sP (.slice none 0 0)<|sP (.int .i64 1) ?_
  refine sG<|Sy.ret<|Sy.then_ret ?_
  exact Sy.retT2 L rfl (.inl (show _=some (.slice none 0 0) by kernel_rfl)) (.inl (show _=some (.int .i64 1) by kernel_rfl)) (λ_ h=>h.less (by rw [hX]; exact List.sublist_append_left _ _)) (ShR.no (by unfold okSh; rw [decide_eq_false (p:=1≤T) (by omega)]; rfl))
 have l1:¬ T<1:=of_decide_eq_false hb1.symm
 obtain ⟨b2,hb2⟩:∃ t_:Bool,t_=decide ((kn:Int)<T):=⟨_,rfl⟩
 refine sP (.pointer (some ⟨g1,0,none⟩))<|sS (.int .i64 T) (cellC (R:=X) c0 (λ_ h=>h) rfl Tryz.underlying3)<|sP (.pointer (some ⟨g1,1,none⟩))<|sS (.slice kA kn kc) (cellC (R:=X) c1 (λ_ h=>h) rfl Tryz.underlying24)<|sP (.int .i64 (kn:Int))<|sS (.bool b2) (Quiet.pure (exec_int .gtr _ _ _ .i64 _ _ _ rfl rfl rfl (int_gtr _ _ _ _ _ (by rw [hb2]))))<|sP (.bool b2)<|sp rfl ?_
 cases b2
 case' true =>
  have l2:(kn:Int)<T:=of_decide_eq_true hb2.symm
  refine sN<|sN<|sN<|sN<|sN<|sN<|sP (.bool true) ?_
  refine sG<|sT<|sC ?_
  refine sP (.slice none 0 0)<|sP (.int .i64 1) ?_
  refine sG<|Sy.ret<|Sy.then_ret ?_
  exact Sy.retT2 L rfl (.inl (show _=some (.slice none 0 0) by kernel_rfl)) (.inl (show _=some (.int .i64 1) by kernel_rfl)) (λ_ h=>h.less (by rw [hX]; exact List.sublist_append_left _ _)) (ShR.no (by unfold okSh; rw [decide_eq_false (p:=T≤(keys.length:Int)) (by omega)]; simp))
 have l2:¬ (kn:Int)<T:=of_decide_eq_false hb2.symm
 obtain ⟨b3,hb3⟩:∃ t_:Bool,t_=decide (256<33*kn+3):=⟨_,rfl⟩
 refine sP (.pointer (some ⟨g1,1,none⟩))<|sS (.slice kA kn kc) (cellC (R:=X) c1 (λ_ h=>h) rfl Tryz.underlying24)<|sP (.int .i64 (kn:Int))<|sS (.int .i64 ((33*kn:Nat):Int)) (Quiet.pure (exec_int .mul _ _ _ .i64 _ _ _ rfl rfl rfl (int_mul _ _ _ _ _ ((wrap_i64 (by omega) (by omega)).trans (by omega)))))<|sS (.int .i64 ((33*kn+3:Nat):Int)) (Quiet.pure (exec_int .add _ _ _ .i64 _ _ _ rfl rfl rfl (int_add _ _ _ _ _ ((wrap_i64 (by omega) (by omega)).trans (by omega)))))<|sS (.bool b3) (Quiet.pure (exec_int .gtr _ _ _ .i64 _ _ _ rfl rfl rfl (int_gtr _ _ _ _ _ (by rw [hb3]; exact decide_eq_decide.2 (by omega)))))<|sP (.bool b3) ?_
 cases b3
 case' true =>
  have l3:256<33*kn+3:=of_decide_eq_true hb3.symm
  refine sG<|sT<|sC ?_
  refine sP (.slice none 0 0)<|sP (.int .i64 1) ?_
  refine sG<|Sy.ret<|Sy.then_ret ?_
  exact Sy.retT2 L rfl (.inl (show _=some (.slice none 0 0) by kernel_rfl)) (.inl (show _=some (.int .i64 1) by kernel_rfl)) (λ_ h=>h.less (by rw [hX]; exact List.sublist_append_left _ _)) (ShR.no (by unfold okSh; rw [decide_eq_false (p:=33*keys.length+3≤256) (by omega)]; simp))
 have l3:¬ 256<33*kn+3:=of_decide_eq_false hb3.symm
 have hok:okSh T keys.length=true:=by
  unfold okSh
  rw [decide_eq_true (p:=1≤T) (by omega),decide_eq_true (p:=T≤(keys.length:Int)) (by omega),decide_eq_true (p:=33*keys.length+3≤256) (by omega)]; rfl
 refine sG<|sU<|Sy.skip<|Sy.then_<|sC ?_
 refine sP (.slice none 0 0) ?_
 refine sG<|Sy.seq<|sC ?_
 refine sP (.int .i64 0) ?_
 refine sG<|Sy.block ?_
 refine Sy.loopT (Y:=Slc) kn (λi y=>[(1,ptr g1),(4,y.v),(5,.int .i64 (i:Int))]) (λ_ y=>X++(y.bl++[])) (λi y=>BS y (keysB (keys.take i))) nilS (by rw [List.take_zero]; exact Slc.Is.nil _ _) (all_cons kR (all_cons kR (all_cons kR all_nil))) (λw h=>by show St _ w (X++([]++[])); simpa using h) (λi y hi hy=>?_)
 refine Sy.seq<|sC ?_
 obtain ⟨b4,hb4⟩:∃ t_:Bool,t_=decide (i<kn):=⟨_,rfl⟩
 refine sp rfl<|sP (.pointer (some ⟨g1,1,none⟩))<|sS (.slice kA kn kc) (cellC (R:=X) c1 (λb hb=>List.mem_append_left _ hb) rfl Tryz.underlying24)<|sP (.int .i64 (kn:Int))<|sS (.bool b4) (Quiet.pure (exec_int .lss _ _ _ .i64 _ _ _ rfl rfl rfl (int_lss _ _ _ _ _ (by rw [hb4]; exact decide_eq_decide.2 (by omega))))) ?_
 refine sG ?_
 cases b4
 case' false =>
  have l4:¬ i<kn:=of_decide_eq_false hb4.symm
  rw [List.take_of_length_le (by omega)] at hy
  have hyl:(keysB keys).length=33*kn:=by rw [keysB_len hkl,k2]
  obtain ⟨t,ht⟩:∃ t:Nat,t=T.toNat:=⟨_,rfl⟩
  have hTt:T=(t:Int):=by omega
  refine sU<|Sy.exit<|Sy.then_exit<|Sy.then_exit<|Sy.in_exit<|Sy.then_<|sC ?_
  refine sp rfl ?_
  refine Sy.make kR 5 (([104]:Byt).map bv).toArray (λg=>.slice (some ⟨g,0,none⟩) 1 1) kF (λgp=>?_)
  refine appB (y:=y) (b2:=[104]) (A:=some ⟨gp,0,none⟩) (m:=1) (cp:=1) (X:=X++[(gp,5,(([104]:Byt).map bv).toArray)]) (R:=X++[(gp,5,(([104]:Byt).map bv).toArray)]) kR _ _ rfl hy kR kR (blk_key (t:=5) (k:=[104]) (by simp) rfl (by decide)) (Sy.flat_perm (ls:=[X,y.bl,[(gp,5,(([104]:Byt).map bv).toArray)]]) (ms:=[X,[(gp,5,(([104]:Byt).map bv).toArray)],y.bl]) [0,2,1] kR rfl (by simp) (by simp)) (λ_ h=>h) (by rw [hyl]; simp; omega) (λy1 hy1=>?_)
  obtain ⟨X1,hX1⟩:∃ Z,Z=X++[(gp,5,(([104]:Byt).map bv).toArray)]:=⟨_,rfl⟩
  rw [← hX1]
  refine sp rfl ?_
  refine sA ?_
  refine sp rfl<|sP (.pointer (some ⟨g1,0,none⟩))<|sS (.int .i64 T) (cellC (R:=X) c0 (λb hb=>List.mem_append_left _ (by rw [hX1]; exact List.mem_append_left _ hb)) rfl Tryz.underlying3)<|sS (bv (UInt8.ofNat t)) (Quiet.pure (λw=>conv_iu8 w _ _ _ t (by omega) rfl (by rw [← hTt]; rfl))) ?_
  refine Sy.make kR 5 (([UInt8.ofNat t]:Byt).map bv).toArray (λg=>.slice (some ⟨g,0,none⟩) 1 1) kF (λgq=>?_)
  refine appB (y:=y1) (b2:=[UInt8.ofNat t]) (A:=some ⟨gq,0,none⟩) (m:=1) (cp:=1) (X:=X1++[(gq,5,(([UInt8.ofNat t]:Byt).map bv).toArray)]) (R:=X1++[(gq,5,(([UInt8.ofNat t]:Byt).map bv).toArray)]) kR _ _ rfl hy1 kR kR (blk_key (t:=5) (k:=[UInt8.ofNat t]) (by simp) rfl (by decide)) (Sy.flat_perm (ls:=[X1,y1.bl,[(gq,5,(([UInt8.ofNat t]:Byt).map bv).toArray)]]) (ms:=[X1,[(gq,5,(([UInt8.ofNat t]:Byt).map bv).toArray)],y1.bl]) [0,2,1] kR rfl (by simp) (by simp)) (λ_ h=>h) (by rw [List.length_append,hyl]; simp; omega) (λy2 hy2=>?_)
  obtain ⟨X2,hX2⟩:∃ Z,Z=X1++[(gq,5,(([UInt8.ofNat t]:Byt).map bv).toArray)]:=⟨_,rfl⟩
  rw [← hX2]
  refine sp rfl ?_
  refine sA ?_
  refine sp rfl<|sP (.pointer (some ⟨g1,1,none⟩))<|sS (.slice kA kn kc) (cellC (R:=X) c1 (λb hb=>List.mem_append_left _ (by rw [hX2]; exact List.mem_append_left _ (by rw [hX1]; exact List.mem_append_left _ hb))) rfl Tryz.underlying24)<|sP (.int .i64 (kn:Int))<|sS (bv (UInt8.ofNat kn)) (Quiet.pure (λw=>conv_iu8 w _ _ _ kn (by omega) rfl rfl)) ?_
  refine Sy.make kR 5 (([UInt8.ofNat kn]:Byt).map bv).toArray (λg=>.slice (some ⟨g,0,none⟩) 1 1) kF (λgr=>?_)
  refine appB (y:=y2) (b2:=[UInt8.ofNat kn]) (A:=some ⟨gr,0,none⟩) (m:=1) (cp:=1) (X:=X2++[(gr,5,(([UInt8.ofNat kn]:Byt).map bv).toArray)]) (R:=X2++[(gr,5,(([UInt8.ofNat kn]:Byt).map bv).toArray)]) kR _ _ rfl hy2 kR kR (blk_key (t:=5) (k:=[UInt8.ofNat kn]) (by simp) rfl (by decide)) (Sy.flat_perm (ls:=[X2,y2.bl,[(gr,5,(([UInt8.ofNat kn]:Byt).map bv).toArray)]]) (ms:=[X2,[(gr,5,(([UInt8.ofNat kn]:Byt).map bv).toArray)],y2.bl]) [0,2,1] kR rfl (by simp) (by simp)) (λ_ h=>h) (by rw [List.length_append,List.length_append,hyl]; simp; omega) (λy3 hy3=>?_)
  obtain ⟨X3,hX3⟩:∃ Z,Z=X2++[(gr,5,(([UInt8.ofNat kn]:Byt).map bv).toArray)]:=⟨_,rfl⟩
  rw [← hX3]
  refine sp rfl ?_
  refine sA ?_
  refine sp rfl<|sp rfl<|sP (.int .i64 0) ?_
  refine sG<|Sy.ret ?_
  exact Sy.retT2 (L++y3.bl) rfl (.inl (show _=some y3.v by kernel_rfl)) (.inl (show _=some (.int .i64 0) by kernel_rfl)) (λw h=>by
   rw [hX3,hX2,hX1,hX] at h
   exact (Sy.St.parts (ls:=[L,[(g1,45,#[.int .i64 T,.slice kA kn kc])],[(gp,5,(([104]:Byt).map bv).toArray)],[(gq,5,(([UInt8.ofNat t]:Byt).map bv).toArray)],[(gr,5,(([UInt8.ofNat kn]:Byt).map bv).toArray)],y3.bl]) (ms:=[L,y3.bl]) [[(g1,45,#[.int .i64 T,.slice kA kn kc])],[(gp,5,(([104]:Byt).map bv).toArray)],[(gq,5,(([UInt8.ofNat t]:Byt).map bv).toArray)],[(gr,5,(([UInt8.ofNat kn]:Byt).map bv).toArray)]] [0,5,1,2,3,4] kR rfl (by simp) (by simp) h)) ⟨y3,by unfold shE; rw [if_pos hok],rfl,by
    unfold shB; rw [if_pos hok]; unfold shareB; rw [← ht,k2]
    simpa [List.append_assoc] using hy3⟩
 have l4:i<kn:=of_decide_eq_true hb4.symm
 obtain ⟨k,hki⟩:∃ k,keys[i]? = some k:=⟨_,List.getElem?_eq_getElem (by omega)⟩
 obtain ⟨ga,oa,rfl,hq⟩:=k5 (by intro e; rw [e] at hki; cases hki)
 obtain ⟨cs,q1,q2,⟨rfl,q3⟩,q4⟩:=hq i k hki
 have htk:keysB (keys.take (i+1))=(keysB (keys.take i)++[32])++k:=by
  rw [List.take_add_one,hki,keysB_app,List.append_assoc]
  congr 1
  show (32::k)++[]=_
  rw [List.append_nil]; rfl
 have hyl:(keysB (keys.take i)).length≤33*kn:=by
  rw [keysB_len (λk hk=>hkl k (List.mem_of_mem_take hk)),List.length_take]; omega
 refine sT<|Sy.skip<|Sy.then_<|Sy.seq<|Sy.block<|sC ?_
 refine sp rfl ?_
 refine Sy.make kR 5 (([32]:Byt).map bv).toArray (λg=>.slice (some ⟨g,0,none⟩) 1 1) kF (λgp=>?_)
 refine appB (y:=y) (b2:=[32]) (A:=some ⟨gp,0,none⟩) (m:=1) (cp:=1) (X:=X++[(gp,5,(([32]:Byt).map bv).toArray)]) (R:=X++[(gp,5,(([32]:Byt).map bv).toArray)]) kR _ _ rfl hy kR kR (blk_key (t:=5) (k:=[32]) (by simp) rfl (by decide)) (Sy.flat_perm (ls:=[X,y.bl,[(gp,5,(([32]:Byt).map bv).toArray)]]) (ms:=[X,[(gp,5,(([32]:Byt).map bv).toArray)],y.bl]) [0,2,1] kR rfl (by simp) (by simp)) (λ_ h=>h) (by rw [List.length_singleton]; omega) (λy1 hy1=>?_)
 obtain ⟨X1,hX1⟩:∃ Z,Z=X++[(gp,5,(([32]:Byt).map bv).toArray)]:=⟨_,rfl⟩
 rw [← hX1]
 refine sp rfl ?_
 refine sG<|Sy.region ?_
 refine sp rfl<|sP (.pointer (some ⟨g1,1,none⟩))<|sS (.slice (some ⟨ga,oa,none⟩) kn kc) (cellC (R:=X) c1 (λb hb=>List.mem_append_left _ (by rw [hX1]; exact List.mem_append_left _ hb)) rfl Tryz.underlying24)<|sp rfl<|sS (.pointer (some ⟨ga,oa+i*32,none⟩)) (Quiet.pure (exec_at 24 31 _ _ ga oa kn kc i 32 .i64 rfl rfl rfl Tryz.underlying24 kF l4))<|sS (.agg (k.map bv).toArray) (rowC (R:=X) (cs:=k.map bv) (q4.le (rdC_le hRX)) (λb hb=>List.mem_append_left _ (by rw [hX1]; exact List.mem_append_left _ hb)) q1 rfl Tryz.underlying31) ?_
 refine Sy.callT (λw hw=>text13_any w0.inn _ k q3 w hw) (λu M hM=>?_)
 obtain ⟨y2,rfl,rfl,hy2⟩:=hM
 obtain ⟨tA,tc,tv,tl,_⟩:=Slc_from (w0:=w0.inn) (L:=y2.bl) hy2 (λ_ h=>h)
 have hytb:BytR (rdC w0 (X1++y2.bl)) (.slice tA k.length tc) k:=by
  have:=(Slc_byt hy2).le (λg o v hv=>(.inr (rdB_le (λb hb=>List.mem_append_right X1 hb) g o v hv):rdC w0 (X1++y2.bl) g o v))
  rw [tv,byL_len] at this
  exact this
 rw [byL_len] at tv
 rw [tv]
 refine appB (y:=y1) (b2:=k) (A:=tA) (m:=k.length) (cp:=tc) (X:=X1++y2.bl) (R:=X1++y2.bl) kR _ _ rfl hy1 kR kR hytb (Sy.flat_perm (ls:=[X1,y1.bl,y2.bl]) (ms:=[X1,y2.bl,y1.bl]) [0,2,1] kR rfl (by simp) (by simp)) (λ_ h=>h) (by rw [List.length_append,List.length_singleton]; omega) (λy3 hy3=>?_)
 refine sp rfl ?_
 refine Sy.nil<|Sy.in_<|Sy.then_<|Sy.region ?_
 refine sp rfl<|sS (.int .i64 ((i+1:Nat):Int)) (Quiet.pure (exec_int .add _ _ _ .i64 _ _ _ rfl rfl rfl (int_add _ _ _ _ _ ((wrap_i64 (by omega) (by omega)).trans (by omega)))))<|sp rfl ?_
 refine Sy.nil ?_
 exact Sy.againT y3 l4 (by
  show BS y3 (keysB (keys.take (i+1)))
  rw [htk]
  exact hy3) (all_cons kR (all_cons kR (all_cons kR all_nil))) (λw h=>by
  rw [hX1] at h
  exact (Sy.St.parts (ls:=[X,[(gp,5,(([32]:Byt).map bv).toArray)],y2.bl,y3.bl]) (ms:=[X,y3.bl]) [[(gp,5,(([32]:Byt).map bv).toArray)],y2.bl] [0,3,1,2] kR rfl (by simp) (by simp) h))
end Pg
end
section
namespace Pg
open Go.RowKit Sy
set_option maxRecDepth 100000
set_option maxHeartbeats 4000000
open Wr
theorem arg2 {w0:Base} {R:Blocks} {g:Nat} {v u:Value} {a b:Byt} (h:(g,39,#[v,u])∈R) (ha:BytR (rdC w0 R) v a) (hb:BytR (rdC w0 R) u b):Arg (rdC w0 R) (rdC w0 R) (.slice (some ⟨g,0,none⟩) 2 2) [(v,a),(u,b)] :=
 ⟨_,_,_,rfl,rfl,Nat.le_refl _,by decide,λ_=>⟨g,0,rfl,λj z hz=>by
  match j,hz with
  | 0,hz=>cases hz; exact ⟨.inr ⟨_,_,h,rfl⟩,ha⟩
  | 1,hz=>cases hz; exact ⟨.inr ⟨_,_,h,rfl⟩,hb⟩⟩⟩
theorem ef_simple {Tb:World→Prop} (E:Env) (m:Byt) (hm:m.length=32) (hh:E.h<18446744073709551616) (x:Opn) (hok:okO x) (h2:¬ x.1.toNat=102) (h3:¬ x.1.toNat=103) (h4:¬ x.1.toNat=104):EfC Tb E m x (fnOf x.1):=by
 by_cases l0:x.1.toNat≤64
 ·rw [show fnOf x.1=86 by unfold fnOf; rw [if_pos l0]]
  exact push_ef E m hm x l0
 by_cases l96:x.1.toNat=96
 ·rw [show fnOf x.1=87 by unfold fnOf; rw [l96]; rfl]
  exact verify_ef E m hm x l96
 by_cases l97:x.1.toNat=97
 ·rw [show fnOf x.1=88 by unfold fnOf; rw [l97]; rfl]
  exact not_ef E m hm x l97
 by_cases l98:x.1.toNat=98
 ·rw [show fnOf x.1=89 by unfold fnOf; rw [l98]; rfl]
  exact equal_ef E m hm x l98
 by_cases l99:x.1.toNat=99
 ·rw [show fnOf x.1=90 by unfold fnOf; rw [l99]; rfl]
  exact dup_ef E m hm x l99
 by_cases l100:x.1.toNat=100
 ·rw [show fnOf x.1=91 by unfold fnOf; rw [l100]; rfl]
  exact drop_ef E m hm x l100
 by_cases l101:x.1.toNat=101
 ·rw [show fnOf x.1=92 by unfold fnOf; rw [l101]; rfl]
  exact swap_ef E m hm x l101
 by_cases l105:x.1.toNat=105
 ·rw [show fnOf x.1=96 by unfold fnOf; rw [l105]; rfl]
  exact after_ef E m hm x l105
 by_cases l106:x.1.toNat=106
 ·rw [show fnOf x.1=97 by unfold fnOf; rw [l106]; rfl]
  exact branch_ef E m hm x l106
 by_cases l107:x.1.toNat=107
 ·rw [show fnOf x.1=98 by unfold fnOf; rw [l107]; rfl]
  exact other_ef E m hm x l107
 have l108:x.1.toNat=108:=by
  have h1:okO x:=hok
  unfold okO follow at h1
  rw [if_neg l0,if_neg h4] at h1
  split at h1
  ·omega
  ·cases h1
 rw [show fnOf x.1=99 by unfold fnOf; rw [l108]; rfl]
 exact end_ef E m hm x l108
def E0 (h:Nat):Env:=⟨λ_ _=>false,λ_=>[],h⟩
theorem ne_of_small {p:Byt} {k:Nat} (x:Opn) (hx:x∈(parse p).2) (h:(parse p).2.all (λy=>decide (y.1.toNat≠k))=true):¬ x.1.toNat=k:=by
 have:=List.all_eq_true.1 h x hx
 simpa using this
theorem alive13 (w:World):Calls Tryz.prog 5 #[] w (Gets w (.bool true)):=by
 refine Sy.enter (args:=[]) Tryz.func5 rfl kL ?_
 refine sC ?_
 refine sP (.bool false) ?_
 refine sA ?_
 refine sP (.agg ((List.replicate 32 (0:UInt8)).map bv).toArray) ?_
 refine sM 27 ((List.replicate 32 (0:UInt8)).map bv).toArray (λg1=>?_)
 refine sw 0 rfl ((List.replicate 32 (0:UInt8)).map bv).toArray (wA rfl) ?_
 refine sA ?_
 refine Sy.make kR 5 (([1,5,105,1,1]:Byt).map bv).toArray (λg=>.slice (some ⟨g,0,none⟩) 5 5) kF (λg2=>?_)
 refine sS (.agg ((List.replicate 32 (0:UInt8)).map bv).toArray) (qk 0 0 32 rfl rfl Tryz.underlying27) ?_
 have e1:run (E0 5) [1,5,105,1,1] (List.map (·.2) ([]:List (Value×Byt)))=0:=by decide
 refine Sy.callT (λw hw=>run_any (Tb:=λ_=>True) (E0 5) (List.replicate 32 0) rfl (show 5<18446744073709551616 by decide) _ trivial _ _ (λ_ h=>h) (.slice (some ⟨g2,0,Option.none⟩) 5 5) (.slice none 0 0) [1,5,105,1,1] ([]:List (Value×Byt)) (byt_blk (λj v hv=>.inr ⟨5,(([1,5,105,1,1]:Byt).map bv).toArray,by simp,hv⟩) rfl (by decide)) ⟨Option.none,0,0,rfl,rfl,Nat.le_refl _,Nat.zero_le _,λh=>(h rfl).elim⟩ (λx hx=>ef_simple (E0 5) _ rfl (show 5<18446744073709551616 by decide) x (parse_ok _ x hx) (ne_of_small x hx (by decide)) (ne_of_small x hx (by decide)) (ne_of_small x hx (by decide))) w hw) (λu M hM=>?_)
 obtain ⟨rfl,rfl⟩:=hM
 rw [e1]
 refine sP (.bool true)<|sP (.bool true) ?_
 refine Sy.make kR 5 (([1,6,105,1,1]:Byt).map bv).toArray (λg=>.slice (some ⟨g,0,none⟩) 5 5) kF (λg3=>?_)
 refine sS (.agg ((List.replicate 32 (0:UInt8)).map bv).toArray) (qk 0 0 32 rfl rfl Tryz.underlying27) ?_
 have e2:run (E0 5) [1,6,105,1,1] (List.map (·.2) ([]:List (Value×Byt)))=136:=by decide
 refine Sy.callT (λw hw=>run_any (Tb:=λ_=>True) (E0 5) (List.replicate 32 0) rfl (show 5<18446744073709551616 by decide) _ trivial _ _ (λ_ h=>h) (.slice (some ⟨g3,0,Option.none⟩) 5 5) (.slice none 0 0) [1,6,105,1,1] ([]:List (Value×Byt)) (byt_blk (λj v hv=>.inr ⟨5,(([1,6,105,1,1]:Byt).map bv).toArray,by simp,hv⟩) rfl (by decide)) ⟨Option.none,0,0,rfl,rfl,Nat.le_refl _,Nat.zero_le _,λh=>(h rfl).elim⟩ (λx hx=>ef_simple (E0 5) _ rfl (show 5<18446744073709551616 by decide) x (parse_ok _ x hx) (ne_of_small x hx (by decide)) (ne_of_small x hx (by decide)) (ne_of_small x hx (by decide))) w hw) (λu M hM=>?_)
 obtain ⟨rfl,rfl⟩:=hM
 rw [e2]
 refine sP (.bool true)<|sP (.bool true)<|sP (.bool true) ?_
 refine Sy.make kR 5 (([98]:Byt).map bv).toArray (λg=>.slice (some ⟨g,0,none⟩) 1 1) kF (λg4=>?_)
 refine Sy.make kR 5 (([5]:Byt).map bv).toArray (λg=>.slice (some ⟨g,0,none⟩) 1 1) kF (λg5=>?_)
 refine Sy.make kR 5 (([5]:Byt).map bv).toArray (λg=>.slice (some ⟨g,0,none⟩) 1 1) kF (λg6=>?_)
 refine Sy.make kR 39 #[.slice (some ⟨g5,0,none⟩) 1 1,.slice (some ⟨g6,0,none⟩) 1 1] (λg=>.slice (some ⟨g,0,none⟩) 2 2) kF (λg7=>?_)
 refine sS (.agg ((List.replicate 32 (0:UInt8)).map bv).toArray) (qk 0 0 32 rfl rfl Tryz.underlying27) ?_
 have e3:run (E0 0) [98] (List.map (·.2) ([(.slice (some ⟨g5,0,Option.none⟩) 1 1,[5]),(.slice (some ⟨g6,0,Option.none⟩) 1 1,[5])]:List (Value×Byt)))=0:=show run (E0 0) [98] [[5],[5]]=0 by decide
 refine Sy.callT (λw hw=>run_any (Tb:=λ_=>True) (E0 0) (List.replicate 32 0) rfl (show 0<18446744073709551616 by decide) _ trivial _ _ (λ_ h=>h) (.slice (some ⟨g4,0,Option.none⟩) 1 1) (.slice (some ⟨g7,0,Option.none⟩) 2 2) [98] ([(.slice (some ⟨g5,0,Option.none⟩) 1 1,[5]),(.slice (some ⟨g6,0,Option.none⟩) 1 1,[5])]:List (Value×Byt)) (byt_blk (λj v hv=>.inr ⟨5,(([98]:Byt).map bv).toArray,by simp,hv⟩) rfl (by decide)) (arg2 (by simp) (byt_blk (λj v hv=>.inr ⟨5,(([5]:Byt).map bv).toArray,by simp,hv⟩) rfl (by decide)) (byt_blk (λj v hv=>.inr ⟨5,(([5]:Byt).map bv).toArray,by simp,hv⟩) rfl (by decide))) (λx hx=>ef_simple (E0 0) _ rfl (show 0<18446744073709551616 by decide) x (parse_ok _ x hx) (ne_of_small x hx (by decide)) (ne_of_small x hx (by decide)) (ne_of_small x hx (by decide))) w hw) (λu M hM=>?_)
 obtain ⟨rfl,rfl⟩:=hM
 rw [e3]
 refine sP (.bool true)<|sP (.bool true)<|sP (.bool true) ?_
 refine Sy.make kR 5 (([106]:Byt).map bv).toArray (λg=>.slice (some ⟨g,0,none⟩) 1 1) kF (λg8=>?_)
 have e4:(parse [106]).1=135:=by decide
 refine Sy.callT (λw hw=>right_any _ _ _ (λ_ h=>h) (.slice (some ⟨g8,0,Option.none⟩) 1 1) [106] (byt_blk (λj v hv=>.inr ⟨5,(([106]:Byt).map bv).toArray,by simp,hv⟩) rfl (by decide)) w hw) (λu M hM=>?_)
 obtain ⟨rfl,rfl⟩:=hM
 rw [e4]
 refine sP (.bool true)<|sP (.bool true)<|sp rfl ?_
 refine sG<|Sy.ret ?_
 exact rV (.bool true) rfl
end Pg
end
section
namespace Pg
open Go.RowKit Sy
set_option maxRecDepth 100000
set_option maxHeartbeats 4000000
open Wr
theorem gets_of {P:Program} {f:FuncId} {args:Array Value} {w:World} {R:Value→Blocks→Prop} (h:Calls P f args w (Turns (Base.of w) R)):Calls P f args w (GetsN w R):=h.mono λe w' he=>by
 obtain ⟨v,M,rfl,hR,hst⟩:=he
 exact ⟨v,M,rfl,hR,hst.below,λg t cs hm=>hst.blk g t cs hm,hst.apart⟩
def PyR (d:Byt) (v:Value) (M:Blocks):Prop:=∃ y:Slc,v=y.v∧M=y.bl∧BS y d
theorem PyR.of {d:Byt} {v:Value} {M:Blocks} (h:TxR [] d v M):PyR d v M:=by
 obtain ⟨y,h1,h2,h3⟩:=h
 exact ⟨y,h1,by rw [h2]; rfl,h3⟩
theorem GetsN.mono {w:World} {R S:Value→Blocks→Prop} (h:∀ v M,R v M→S v M) {e:Ending} {w':World} (he:GetsN w R e w'):GetsN w S e w':=by
 obtain ⟨v,M,h1,h2,h3⟩:=he
 exact ⟨v,M,h1,h v M h2,h3⟩
theorem own_byt {w0:Base} {w:World} {L:Blocks} {y:Slc} {d:Byt} (hy:BS y d) (hL:∀ b∈y.bl,b∈L) (hw:St w0 w L):BytR (rdW w) y.v d:=(Slc_byt hy).le (λg o v h=>rdC_world hw hL g o v (.inr h))
theorem same13_true (w:World) (v u:Value) (a:Byt) (hv:BytR (rdW w) v a) (hu:BytR (rdW w) u a):Calls Tryz.prog 10 #[v,u] w (Gets w (.bool true)):=by
 have q:=same13_any w v u a a hv hu
 rw [decide_eq_true rfl] at q
 exact q
end Pg
end
section
namespace Ec
variable {n:Nat} [NeZero n] {inv:Fin n→Fin n}
structure Jac (n:Nat) where
 x:Fin n
 y:Fin n
 z:Fin n
def Rep (a:Jac n):Pt n→Prop
 | none=>a.z=0
 | some (X,Y)=>a.z≠0∧a.x=X*(a.z*a.z)∧a.y=Y*(a.z*a.z*a.z)
theorem Fld.ne_mul (H:Fld n inv) {a b:Fin n} (ha:a≠0) (hb:b≠0):a*b≠0:=λh=>by
 rcases H.zero h with k | k
 ·exact ha k
 ·exact hb k
theorem tw (H:Fld n inv) {P:Pt n} {a s:Jac n} {u q:Fin n} (hP:On P) (h:Rep a P) (hu:u=a.x*a.x*3) (hz:s.z=a.y*a.z*2) (hq:q=a.x*(a.y*a.y)*4) (hx:s.x=u*u - (q+q)) (hy:s.y=u*(q - s.x) - a.y*a.y*(a.y*a.y)*8):Rep s (add inv P P):=by
 rcases P with _ | ⟨X,Y⟩
 ·show s.z=0
  have h:a.z=0:=h
  rw [hz,h]; clear hz hu hq hx hy; grobner
 ·obtain ⟨h0,h1,h2⟩:=h
  have hY:=H.noTwo X Y hP
  have hYY:Y+Y≠0:=λk=>hY (H.two _ k)
  have hn:¬ (X=X∧Y+Y=0):=λk=>hYY k.2
  obtain ⟨l,hl⟩:∃ l,l=slp inv X Y X Y:=⟨_,rfl⟩
  have hl2:l*(Y+Y)=X*X*3:=by
   have hi:=H.one _ hYY
   rw [hl]; unfold slp; rw [if_pos rfl]
   clear hz hu hq hx hy h1 h2 hl
   grobner
  have ea:add inv (some (X,Y)) (some (X,Y))=some (x3 l X X,y3 l X Y X):=by rw [hl]; exact if_neg hn
  rw [ea]
  obtain ⟨ax,ay,z⟩:=a
  obtain ⟨sx,sy,sz⟩:=s
  simp only at h0 h1 h2 hu hz hq hx hy ⊢
  have e1:sz=Y*(z*z*z*z)*2:=by rw [hz,h2]; clear hu hq hx hy h1 h2 hl hl2 hz; grobner
  have e2:u=l*sz:=by
   rw [hu,h1,e1]
   have:X*(z*z)*(X*(z*z))*3=X*X*3*(z*z*z*z):=by clear hu hq hx hy h1 h2 hl hl2 hz e1; grobner
   rw [this, ← hl2]
   clear hu hq hx hy h1 h2 hl hl2 hz e1 this; grobner
  have e3:q=X*(sz*sz):=by rw [hq,h1,h2,e1]; clear hu hq hx hy h1 h2 hl hl2 hz e1 e2; grobner
  have e4:ay*ay*(ay*ay)*8=Y*(sz*sz*sz):=by rw [h2,e1]; clear hu hq hx hy h1 h2 hl hl2 hz e1 e2 e3; grobner
  have e5:sx=x3 l X X*(sz*sz):=by rw [hx,e2,e3]; unfold x3; clear hu hq hx hy h1 h2 hl hl2 hz e1 e2 e3 e4; grobner
  refine ⟨?_,e5,?_⟩
  ·rw [e1]
   have h4:=H.ne_mul (H.ne_mul (H.ne_mul h0 h0) h0) h0
   intro k
   refine H.ne_mul hYY h4 ?_
   rw [← k]
   clear hu hq hx hy h1 h2 hl hl2 hz e1 e2 e3 e4 e5 k; grobner
  ·rw [hy,e4,e2,e3,e5]
   unfold y3
   clear hu hq hx hy h1 h2 hl hl2 hz e1 e2 e3 e4 e5; grobner
theorem ad (H:Fld n inv) {X1 Y1 X2 Y2:Fin n} {s:Jac n} {Z u v c r:Fin n} (h1:Y1*Y1=X1*X1*X1+7) (h2:Y2*Y2=X2*X2*X2+7) (hZ:Z≠0) (hu:u=X1*(Z*Z)) (hv:v=Y1*(Z*Z*Z)) (hc:c=X2*(Z*Z) - u) (hr:r=Y2*(Z*Z*Z) - v)
  (hn:¬ (c=0∧r=0)) (hx:s.x=r*r - c*c*c - (u*(c*c)+u*(c*c))) (hy:s.y=r*(u*(c*c) - s.x) - v*(c*c*c)) (hz:s.z=Z*c):Rep s (add inv (some (X1,Y1)) (some (X2,Y2))):=by
 obtain ⟨sx,sy,sz⟩:=s
 simp only at hx hy hz ⊢
 have ec:c=(X2 - X1)*(Z*Z):=by rw [hc,hu]; clear hc hu hv hr hx hy hz h1 h2; grobner
 have er:r=(Y2 - Y1)*(Z*Z*Z):=by rw [hr,hv]; clear hc hu hv hr hx hy hz h1 h2; grobner
 by_cases hX:X1=X2
 ·subst hX
  have c0:c=0:=by rw [ec]; clear ec hc hu hv hr hx hy hz h1 h2 er hn; grobner
  have hY:Y1≠Y2:=λe=>hn ⟨c0,by rw [er,e]; clear ec hc hu hv hr hx hy hz h1 h2 er hn c0; grobner⟩
  have hs:Y1+Y2=0:=Classical.byContradiction λt=>off H h1 h2 (λq=>hY q.2) (λq=>t q.2) rfl
  have ea:add inv (some (X1,Y1)) (some (X1,Y2))=none:=if_pos ⟨rfl,hs⟩
  rw [ea]
  show sz=0
  rw [hz,c0]; clear ec hc hu hv hr hx hy hz h1 h2 er hn c0 hs; grobner
 ·have hd:X2 - X1≠0:=λe=>hX (by clear ec hc hu hv hr hx hy hz h1 h2 er hn; grobner)
  have hneg:¬ (X1=X2∧Y1+Y2=0):=λk=>hX k.1
  obtain ⟨l,hl⟩:∃ l,l=slp inv X1 Y1 X2 Y2:=⟨_,rfl⟩
  have hl2:l*(X2 - X1)=Y2 - Y1:=by
   have hi:=H.one _ hd
   rw [hl]; unfold slp; rw [if_neg hX]
   clear ec hc hu hv hr hx hy hz h1 h2 er hn hl
   grobner
  simp only [add]
  rw [if_neg hneg, ← hl]
  have e1:sz=(X2 - X1)*(Z*Z*Z):=by rw [hz,ec]; clear ec hc hu hv hr hx hy hz h1 h2 er hn hl hl2; grobner
  have e2:r=l*sz:=by
   rw [er,e1, ← hl2]
   clear ec hc hu hv hr hx hy hz h1 h2 er hn hl hl2 e1; grobner
  have e3:u*(c*c)=X1*(sz*sz):=by rw [hu,ec,e1]; clear ec hc hu hv hr hx hy hz h1 h2 er hn hl hl2 e1 e2; grobner
  have e4:c*c*c=(X2 - X1)*(sz*sz):=by rw [ec,e1]; clear ec hc hu hv hr hx hy hz h1 h2 er hn hl hl2 e1 e2 e3; grobner
  have e6:v*(c*c*c)=Y1*(sz*sz*sz):=by rw [hv,ec,e1]; clear ec hc hu hv hr hx hy hz h1 h2 er hn hl hl2 e1 e2 e3 e4; grobner
  have e5:sx=x3 l X1 X2*(sz*sz):=by rw [hx,e2,e3,e4]; unfold x3; clear ec hc hu hv hr hx hy hz h1 h2 er hn hl hl2 e1 e2 e3 e4 e6; grobner
  refine ⟨?_,e5,?_⟩
  ·rw [e1]; exact H.ne_mul hd (H.ne_mul (H.ne_mul hZ hZ) hZ)
  ·rw [hy,e2,e3,e6,e5]
   unfold y3
   clear ec hc hu hv hr hx hy hz h1 h2 er hn hl hl2 e1 e2 e3 e4 e5 e6; grobner
theorem rep_point (H:Fld n inv) {a:Jac n} {P:Pt n} (h:Rep a P):(a.z=0∧P=none)∨(a.z≠0∧P=some (a.x*(inv a.z*inv a.z),a.y*(inv a.z*inv a.z*inv a.z))):=by
 rcases P with _ | ⟨X,Y⟩
 ·exact .inl ⟨h,rfl⟩
 ·obtain ⟨h0,h1,h2⟩:=h
  have hi:=H.one _ h0
  refine .inr ⟨h0,?_⟩
  rw [h1,h2]
  obtain ⟨i,hI⟩:∃ i,i=inv a.z:=⟨_,rfl⟩
  rw [← hI] at hi ⊢
  have f1:X*(a.z*a.z)*(i*i)=X:=by
   have:X*(a.z*a.z)*(i*i)=X*(a.z*i)*(a.z*i):=by clear hi hI h1 h2; grobner
   rw [this,hi]; clear hi hI h1 h2 this; grobner
  have f2:Y*(a.z*a.z*a.z)*(i*i*i)=Y:=by
   have:Y*(a.z*a.z*a.z)*(i*i*i)=Y*(a.z*i)*(a.z*i)*(a.z*i):=by clear hi hI h1 h2 f1; grobner
   rw [this,hi]; clear hi hI h1 h2 this f1; grobner
  rw [f1,f2]
end Ec
end
section
namespace Cu
open Go.RowKit Sy
abbrev J:=Ec.Jac pM
def tcs (x y z:Nat):Array Value:=(fws x++(fws y++fws z)).toArray
def tv (x y z:Nat):Value:=.agg (tcs x y z)
def jv (a:J):Value:=tv a.x.val a.y.val a.z.val
def dblJ (a:J):J :=
 ⟨a.x*a.x*3*(a.x*a.x*3) - (a.x*(a.y*a.y)*4+a.x*(a.y*a.y)*4),
  a.x*a.x*3*(a.x*(a.y*a.y)*4 - (a.x*a.x*3*(a.x*a.x*3) - (a.x*(a.y*a.y)*4+a.x*(a.y*a.y)*4))) - a.y*a.y*(a.y*a.y)*8,a.y*a.z*2⟩
theorem dblJ_rep {a:J} {P:Pt} (hP:Ec.On P) (h:Ec.Rep a P):Ec.Rep (dblJ a) (Ec.add finv P P):=Ec.tw fld hP h rfl rfl rfl rfl rfl
def uJ (a b:J):Fp:=a.x*(b.z*b.z)
def vJ (a b:J):Fp:=a.y*(b.z*b.z*b.z)
def cJ (a b:J):Fp:=b.x*(a.z*a.z) - uJ a b
def rJ (a b:J):Fp:=b.y*(a.z*a.z*a.z) - vJ a b
def sxJ (a b:J):Fp:=rJ a b*rJ a b - cJ a b*cJ a b*cJ a b - (uJ a b*(cJ a b*cJ a b)+uJ a b*(cJ a b*cJ a b))
def syJ (a b:J):Fp:=rJ a b*(uJ a b*(cJ a b*cJ a b) - sxJ a b) - vJ a b*(cJ a b*cJ a b*cJ a b)
def szJ (a b:J):Fp:=a.z*b.z*cJ a b
def addJ (a b:J):J:=if a.z=0 then b else if b.z=0 then a else if cJ a b=0∧rJ a b=0 then dblJ a else ⟨sxJ a b,syJ a b,szJ a b⟩
theorem addJ_1 {a b:J} (h:a.z=0):addJ a b=b:=if_pos h
theorem addJ_2 {a b:J} (h:a.z≠0) (k:b.z=0):addJ a b=a:=by unfold addJ; rw [if_neg h,if_pos k]
theorem addJ_3 {a b:J} (h:a.z≠0) (k:b.z≠0) (c:cJ a b=0) (r:rJ a b=0):addJ a b=dblJ a:=by unfold addJ; rw [if_neg h,if_neg k,if_pos ⟨c,r⟩]
theorem addJ_4 {a b:J} (h:a.z≠0) (k:b.z≠0) (c:¬ (cJ a b=0∧rJ a b=0)):addJ a b=⟨sxJ a b,syJ a b,szJ a b⟩:=by unfold addJ; rw [if_neg h,if_neg k,if_neg c]
theorem addJ_rep {a b:J} {P Q:Pt} (hP:Ec.On P) (hQ:Ec.On Q) (h:Ec.Rep a P) (k:Ec.Rep b Q):Ec.Rep (addJ a b) (Ec.add finv P Q):=by
 rcases P with _ | ⟨X1,Y1⟩
 ·rw [addJ_1 h,Ec.zero_add]; exact k
 rcases Q with _ | ⟨X2,Y2⟩
 ·rw [addJ_2 h.1 k]; exact h
 obtain ⟨h0,h1,h2⟩:=h
 obtain ⟨k0,k1,k2⟩:=k
 have hZ:a.z*b.z≠0:=fld.ne_mul h0 k0
 have eu:uJ a b=X1*(a.z*b.z*(a.z*b.z)):=by unfold uJ; rw [h1]; clear h1 h2 k1 k2 h0 k0 hZ hP hQ; grobner
 have ev:vJ a b=Y1*(a.z*b.z*(a.z*b.z)*(a.z*b.z)):=by unfold vJ; rw [h2]; clear h1 h2 k1 k2 h0 k0 hZ hP hQ eu; grobner
 have ec:cJ a b=X2*(a.z*b.z*(a.z*b.z)) - uJ a b:=by unfold cJ; rw [k1]; clear h1 h2 k1 k2 h0 k0 hZ hP hQ eu ev; grobner
 have er:rJ a b=Y2*(a.z*b.z*(a.z*b.z)*(a.z*b.z)) - vJ a b:=by unfold rJ; rw [k2]; clear h1 h2 k1 k2 h0 k0 hZ hP hQ eu ev ec; grobner
 by_cases hc:cJ a b=0∧rJ a b=0
 ·rw [addJ_3 h0 k0 hc.1 hc.2]
  have g1:(X2 - X1)*(a.z*b.z*(a.z*b.z))=0:=by rw [← hc.1,ec,eu]; clear h1 h2 k1 k2 h0 k0 hZ hP hQ eu ev ec er hc; grobner
  have g2:(Y2 - Y1)*(a.z*b.z*(a.z*b.z)*(a.z*b.z))=0:=by rw [← hc.2,er,ev]; clear h1 h2 k1 k2 h0 k0 hZ hP hQ eu ev ec er hc g1; grobner
  have e1:X2=X1:=by
   rcases fld.zero g1 with q | q
   ·clear h1 h2 k1 k2 h0 k0 hZ hP hQ eu ev ec er hc g1 g2; grobner
   ·exact absurd q (fld.ne_mul hZ hZ)
  have e2:Y2=Y1:=by
   rcases fld.zero g2 with q | q
   ·clear h1 h2 k1 k2 h0 k0 hZ hP hQ eu ev ec er hc g1 g2; grobner
   ·exact absurd q (fld.ne_mul (fld.ne_mul hZ hZ) hZ)
  subst e1 e2
  exact dblJ_rep hP ⟨h0,h1,h2⟩
 ·rw [addJ_4 h0 k0 hc]
  exact Ec.ad fld (u:=uJ a b) (v:=vJ a b) (c:=cJ a b) (r:=rJ a b) hP hQ hZ eu ev ec er hc rfl rfl rfl
end Cu
end
section
namespace Cu
open Go.RowKit Sy
set_option maxRecDepth 100000
set_option maxHeartbeats 4000000
theorem twice_c (w:World) (a:Fp):Calls Tryz.prog 123 #[fv a.val] w (Gets w (fv (a+a).val)):=by
 refine Sy.enter (args:=[fv a.val]) Tryz.func123 rfl kL ?_
 refine sC ?_
 refine sM 64 (fcs a.val) (λg0=>?_)
 refine sM 64 (fcs 0) (λg1=>?_)
 refine sA ?_
 refine sS (fv a.val) (qL 0 g0 0 4 64 64 (fcs a.val) rfl Tryz.underlying64)<|sS (fv a.val) (qL 0 g0 0 4 64 64 (fcs a.val) rfl Tryz.underlying64) ?_
 obtain ⟨z1,hz1⟩:∃ z:Fp,z=a+a:=⟨_,rfl⟩
 refine sS (fv z1.val) (qF 73 #[fv a.val,fv a.val] (by rw [hz1]; exact add_c a a))<|sW 1 g1 64 (fcs 0) (fcs z1.val) (wS 0 64 (fcs z1.val) rfl) ?_
 refine sG<|Sy.ret ?_
 rw [show (fv (a+a).val:Value)=fv z1.val from by rw [hz1]]
 exact rC (v:=fv z1.val) 64 g1 1 (fcs z1.val) rfl Tryz.underlying64
theorem double_c (w:World) (a:J):Calls Tryz.prog 110 #[tv a.x.val a.y.val a.z.val] w (Gets w (tv (dblJ a).x.val (dblJ a).y.val (dblJ a).z.val)):=by
 refine Sy.enter (args:=[tv a.x.val a.y.val a.z.val]) Tryz.func110 rfl kL ?_
 refine sC ?_
 refine sM 132 (tcs a.x.val a.y.val a.z.val) (λg0=>?_)
 refine sM 132 (tcs 0 0 0) (λg1=>?_)
 refine sA ?_
 refine sP (.pointer (some ⟨g0,0,none⟩))<|sS (fv a.x.val) (qL 0 g0 0 4 132 64 (tcs a.x.val a.y.val a.z.val) rfl Tryz.underlying64)<|sP (.pointer (some ⟨g0,0,none⟩))<|sS (fv a.x.val) (qL 0 g0 0 4 132 64 (tcs a.x.val a.y.val a.z.val) rfl Tryz.underlying64) ?_
 obtain ⟨z1,hz1⟩:∃ z:Fp,z=a.x*a.x:=⟨_,rfl⟩
 refine sS (fv z1.val) (qF 71 #[fv a.x.val,fv a.x.val] (by rw [hz1]; exact mul_c a.x a.x)) ?_
 refine sM 64 (fcs 0) (λg2=>?_)
 refine sW 2 g2 64 (fcs 0) (fcs z1.val) (wS 0 64 (fcs z1.val) rfl) ?_
 refine sH (λj=>j == 6) ?_
 refine sD 0 rfl (fv z1.val) (qL 2 g2 0 4 64 64 (fcs z1.val) rfl Tryz.underlying64)<|sD 1 rfl (fv z1.val) (qL 2 g2 0 4 64 64 (fcs z1.val) rfl Tryz.underlying64) ?_
 obtain ⟨z2,hz2⟩:∃ z:Fp,z=z1+z1:=⟨_,rfl⟩
 refine sD 2 rfl (fv z2.val) (qF 73 #[fv z1.val,fv z1.val] (by rw [hz2]; exact add_c z1 z1))<|sD 3 rfl (fv z1.val) (qL 2 g2 0 4 64 64 (fcs z1.val) rfl Tryz.underlying64) ?_
 obtain ⟨z3,hz3⟩:∃ z:Fp,z=z2+z1:=⟨_,rfl⟩
 refine sD 4 rfl (fv z3.val) (qF 73 #[fv z2.val,fv z1.val] (by rw [hz3]; exact add_c z2 z1)) ?_
 refine sO 5 rfl 64 (fcs 0) (λg3=>?_)
 refine sX 6 rfl 3 g3 64 (fcs 0) (fcs z3.val) (wS 0 64 (fcs z3.val) rfl) ?_
 refine sE ?_
 refine sB ?_
 refine sP (.pointer (some ⟨g0,4,none⟩))<|sS (fv a.y.val) (qL 0 g0 4 4 132 64 (tcs a.x.val a.y.val a.z.val) rfl Tryz.underlying64)<|sP (.pointer (some ⟨g0,4,none⟩))<|sS (fv a.y.val) (qL 0 g0 4 4 132 64 (tcs a.x.val a.y.val a.z.val) rfl Tryz.underlying64) ?_
 obtain ⟨z4,hz4⟩:∃ z:Fp,z=a.y*a.y:=⟨_,rfl⟩
 refine sS (fv z4.val) (qF 71 #[fv a.y.val,fv a.y.val] (by rw [hz4]; exact mul_c a.y a.y)) ?_
 obtain ⟨z5,hz5⟩:∃ z:Fp,z=z4+z4:=⟨_,rfl⟩
 refine sS (fv z5.val) (qF 123 #[fv z4.val] (λw=>by rw [hz5]; exact twice_c w z4)) ?_
 refine sM 64 (fcs 0) (λg4=>?_)
 refine sW 4 g4 64 (fcs 0) (fcs z5.val) (wS 0 64 (fcs z5.val) rfl) ?_
 refine sA ?_
 refine sP (.pointer (some ⟨g0,0,none⟩))<|sS (fv a.x.val) (qL 0 g0 0 4 132 64 (tcs a.x.val a.y.val a.z.val) rfl Tryz.underlying64)<|sS (fv z5.val) (qL 4 g4 0 4 64 64 (fcs z5.val) rfl Tryz.underlying64) ?_
 obtain ⟨z6,hz6⟩:∃ z:Fp,z=a.x*z5:=⟨_,rfl⟩
 refine sS (fv z6.val) (qF 71 #[fv a.x.val,fv z5.val] (by rw [hz6]; exact mul_c a.x z5)) ?_
 obtain ⟨z7,hz7⟩:∃ z:Fp,z=z6+z6:=⟨_,rfl⟩
 refine sS (fv z7.val) (qF 123 #[fv z6.val] (λw=>by rw [hz7]; exact twice_c w z6)) ?_
 refine sM 64 (fcs 0) (λg5=>?_)
 refine sW 5 g5 64 (fcs 0) (fcs z7.val) (wS 0 64 (fcs z7.val) rfl) ?_
 refine sA ?_
 refine sM 132 (tcs 0 0 0) (λg6=>?_)
 refine sH (λj=>j == 7) ?_
 refine sD 0 rfl (fv z3.val) (qL 3 g3 0 4 64 64 (fcs z3.val) rfl Tryz.underlying64)<|sD 1 rfl (fv z3.val) (qL 3 g3 0 4 64 64 (fcs z3.val) rfl Tryz.underlying64) ?_
 obtain ⟨z8,hz8⟩:∃ z:Fp,z=z3*z3:=⟨_,rfl⟩
 refine sD 2 rfl (fv z8.val) (qF 71 #[fv z3.val,fv z3.val] (by rw [hz8]; exact mul_c z3 z3))<|sD 3 rfl (fv z7.val) (qL 5 g5 0 4 64 64 (fcs z7.val) rfl Tryz.underlying64) ?_
 obtain ⟨z9,hz9⟩:∃ z:Fp,z=z7+z7:=⟨_,rfl⟩
 refine sD 4 rfl (fv z9.val) (qF 123 #[fv z7.val] (λw=>by rw [hz9]; exact twice_c w z7)) ?_
 obtain ⟨z10,hz10⟩:∃ z:Fp,z=z8 - z9:=⟨_,rfl⟩
 refine sD 5 rfl (fv z10.val) (qF 107 #[fv z8.val,fv z9.val] (by rw [hz10]; exact sub_c z8 z9))<|sZ 6 rfl (.pointer (some ⟨g6,0,none⟩))<|sX 7 rfl 6 g6 132 (tcs 0 0 0) (tcs z10.val 0 0) (wS 0 64 (fcs z10.val) rfl) ?_
 refine sE ?_
 refine sR (λj=>j == 12) ?_
 refine sD 0 rfl (fv z3.val) (qL 3 g3 0 4 64 64 (fcs z3.val) rfl Tryz.underlying64)<|sD 1 rfl (fv z7.val) (qL 5 g5 0 4 64 64 (fcs z7.val) rfl Tryz.underlying64)<|sZ 2 rfl (.pointer (some ⟨g6,0,none⟩))<|sD 3 rfl (fv z10.val) (qL 6 g6 0 4 132 64 (tcs z10.val 0 0) rfl Tryz.underlying64) ?_
 obtain ⟨z11,hz11⟩:∃ z:Fp,z=z7 - z10:=⟨_,rfl⟩
 refine sD 4 rfl (fv z11.val) (qF 107 #[fv z7.val,fv z10.val] (by rw [hz11]; exact sub_c z7 z10)) ?_
 obtain ⟨z12,hz12⟩:∃ z:Fp,z=z3*z11:=⟨_,rfl⟩
 refine sD 5 rfl (fv z12.val) (qF 71 #[fv z3.val,fv z11.val] (by rw [hz12]; exact mul_c z3 z11))<|sD 6 rfl (fv z5.val) (qL 4 g4 0 4 64 64 (fcs z5.val) rfl Tryz.underlying64)<|sD 7 rfl (fv z5.val) (qL 4 g4 0 4 64 64 (fcs z5.val) rfl Tryz.underlying64) ?_
 obtain ⟨z13,hz13⟩:∃ z:Fp,z=z5*z5:=⟨_,rfl⟩
 refine sD 8 rfl (fv z13.val) (qF 71 #[fv z5.val,fv z5.val] (by rw [hz13]; exact mul_c z5 z5)) ?_
 obtain ⟨z14,hz14⟩:∃ z:Fp,z=z13+z13:=⟨_,rfl⟩
 refine sD 9 rfl (fv z14.val) (qF 123 #[fv z13.val] (λw=>by rw [hz14]; exact twice_c w z13)) ?_
 obtain ⟨z15,hz15⟩:∃ z:Fp,z=z12 - z14:=⟨_,rfl⟩
 refine sD 10 rfl (fv z15.val) (qF 107 #[fv z12.val,fv z14.val] (by rw [hz15]; exact sub_c z12 z14))<|sZ 11 rfl (.pointer (some ⟨g6,4,none⟩))<|sX 12 rfl 6 g6 132 (tcs z10.val 0 0) (tcs z10.val z15.val 0) (wS 4 64 (fcs z15.val) rfl) ?_
 refine sE ?_
 refine sB ?_
 refine sP (.pointer (some ⟨g0,4,none⟩))<|sS (fv a.y.val) (qL 0 g0 4 4 132 64 (tcs a.x.val a.y.val a.z.val) rfl Tryz.underlying64)<|sP (.pointer (some ⟨g0,8,none⟩))<|sS (fv a.z.val) (qL 0 g0 8 4 132 64 (tcs a.x.val a.y.val a.z.val) rfl Tryz.underlying64) ?_
 obtain ⟨z16,hz16⟩:∃ z:Fp,z=a.y*a.z:=⟨_,rfl⟩
 refine sS (fv z16.val) (qF 71 #[fv a.y.val,fv a.z.val] (by rw [hz16]; exact mul_c a.y a.z)) ?_
 obtain ⟨z17,hz17⟩:∃ z:Fp,z=z16+z16:=⟨_,rfl⟩
 refine sS (fv z17.val) (qF 123 #[fv z16.val] (λw=>by rw [hz17]; exact twice_c w z16))<|sP (.pointer (some ⟨g6,8,none⟩))<|sW 6 g6 132 (tcs z10.val z15.val 0) (tcs z10.val z15.val z17.val) (wS 8 64 (fcs z17.val) rfl) ?_
 refine sA ?_
 refine sS (tv z10.val z15.val z17.val) (qL 6 g6 0 12 132 132 (tcs z10.val z15.val z17.val) rfl Tryz.underlying132)<|sW 1 g1 132 (tcs 0 0 0) (tcs z10.val z15.val z17.val) (wS 0 132 (tcs z10.val z15.val z17.val) rfl) ?_
 refine sG<|Sy.ret ?_
 rw [show (tv (dblJ a).x.val (dblJ a).y.val (dblJ a).z.val:Value)=tv z10.val z15.val z17.val from by
   have k0:(dblJ a).x=z10:=by
    simp only [dblJ]
    grobner
   have k1:(dblJ a).y=z15:=by
    simp only [dblJ]
    grobner
   have k2:(dblJ a).z=z17:=by
    simp only [dblJ]
    grobner
   rw [k0,k1,k2]]
 exact rC (v:=tv z10.val z15.val z17.val) 132 g1 1 (tcs z10.val z15.val z17.val) rfl Tryz.underlying132
theorem widened_c (w:World) (a:J) (t:Fp):Calls Tryz.prog 109 #[tv a.x.val a.y.val a.z.val,fv t.val] w (Gets w (.tuple #[fv (a.x*(t*t)).val,fv (a.y*(t*t*t)).val])):=by
 refine Sy.enter (args:=[tv a.x.val a.y.val a.z.val,fv t.val]) Tryz.func109 rfl kL ?_
 refine sC ?_
 refine sM 132 (tcs a.x.val a.y.val a.z.val) (λg0=>?_)
 refine sM 64 (fcs t.val) (λg1=>?_)
 refine sM 64 (fcs 0) (λg2=>?_)
 refine sM 64 (fcs 0) (λg3=>?_)
 refine sA ?_
 refine sS (fv t.val) (qL 1 g1 0 4 64 64 (fcs t.val) rfl Tryz.underlying64)<|sS (fv t.val) (qL 1 g1 0 4 64 64 (fcs t.val) rfl Tryz.underlying64) ?_
 obtain ⟨z1,hz1⟩:∃ z:Fp,z=t*t:=⟨_,rfl⟩
 refine sS (fv z1.val) (qF 71 #[fv t.val,fv t.val] (by rw [hz1]; exact mul_c t t)) ?_
 refine sM 64 (fcs 0) (λg4=>?_)
 refine sW 4 g4 64 (fcs 0) (fcs z1.val) (wS 0 64 (fcs z1.val) rfl) ?_
 refine sH (λj=>j == 10 || j == 11) ?_
 refine sZ 0 rfl (.pointer (some ⟨g0,0,none⟩))<|sD 1 rfl (fv a.x.val) (qL 0 g0 0 4 132 64 (tcs a.x.val a.y.val a.z.val) rfl Tryz.underlying64)<|sD 2 rfl (fv z1.val) (qL 4 g4 0 4 64 64 (fcs z1.val) rfl Tryz.underlying64) ?_
 obtain ⟨z2,hz2⟩:∃ z:Fp,z=a.x*z1:=⟨_,rfl⟩
 refine sD 3 rfl (fv z2.val) (qF 71 #[fv a.x.val,fv z1.val] (by rw [hz2]; exact mul_c a.x z1)) ?_
 refine Sy.stepDB 4 [5,9,10,11] rfl kR (λ_ _ _ _ h=>h) kR (.pointer (some ⟨g0,4,none⟩)) qP ?_
 refine Sy.stepDB 5 [9,10,11] rfl kR (λ_ _ _ _ h=>h) kR (fv a.y.val) (qL 0 g0 4 4 132 64 (tcs a.x.val a.y.val a.z.val) rfl Tryz.underlying64) ?_
 refine Sy.stepDB 6 [8,9,10,11] rfl kR (λ_ _ _ _ h=>h) kR (fv z1.val) (qL 4 g4 0 4 64 64 (fcs z1.val) rfl Tryz.underlying64) ?_
 refine Sy.stepDB 7 [8,9,10,11] rfl kR (λ_ _ _ _ h=>h) kR (fv t.val) (qL 1 g1 0 4 64 64 (fcs t.val) rfl Tryz.underlying64) ?_
 obtain ⟨z3,hz3⟩:∃ z:Fp,z=z1*t:=⟨_,rfl⟩
 refine Sy.stepDB 8 [9,10,11] rfl kR (λ_ _ _ _ h=>h) kR (fv z3.val) (qF 71 #[fv z1.val,fv t.val] (by rw [hz3]; exact mul_c z1 t)) ?_
 obtain ⟨z4,hz4⟩:∃ z:Fp,z=a.y*z3:=⟨_,rfl⟩
 refine sD 9 rfl (fv z4.val) (qF 71 #[fv a.y.val,fv z3.val] (by rw [hz4]; exact mul_c a.y z3))<|sX 10 rfl 2 g2 64 (fcs 0) (fcs z2.val) (wS 0 64 (fcs z2.val) rfl)<|sX 11 rfl 3 g3 64 (fcs 0) (fcs z4.val) (wS 0 64 (fcs z4.val) rfl) ?_
 refine sI ?_
 refine Sy.ret ?_
 rw [show (.tuple #[fv (a.x*(t*t)).val,fv (a.y*(t*t*t)).val]:Value)=.tuple #[fv z2.val,fv z4.val] from by rw [hz4,hz3,hz2,hz1]]
 exact Sy.ret2 (v:=fv z2.val) (u:=fv z4.val) rfl (.inl (Res.cell (ty':=64) g2 2 (fcs z2.val) _ kR kR Tryz.underlying64 rfl kR kR)) (.inl (Res.cell (ty':=64) g3 3 (fcs z4.val) _ kR kR Tryz.underlying64 rfl kR kR))
end Cu
end
section
namespace Cu
open Go.RowKit Sy
set_option maxHeartbeats 4000000 in
set_option maxRecDepth 100000 in
theorem addJ_c (w:World) (a b:J):Calls Tryz.prog 76 #[tv a.x.val a.y.val a.z.val,tv b.x.val b.y.val b.z.val] w (Gets w (tv (addJ a b).x.val (addJ a b).y.val (addJ a b).z.val)):=by
 refine Sy.enter (args:=[tv a.x.val a.y.val a.z.val,tv b.x.val b.y.val b.z.val]) Tryz.func76 rfl kL ?_
 refine sC ?_
 refine sM 132 (tcs a.x.val a.y.val a.z.val) (λg0=>?_)
 refine sM 132 (tcs b.x.val b.y.val b.z.val) (λg1=>?_)
 refine sM 132 (tcs 0 0 0) (λg2=>?_)
 refine sG<|Sy.seq<|Sy.seq ?_
 refine Sy.regionD (λj=>false) kR ?_
 refine sZ 0 rfl (.pointer (some ⟨g0,8,none⟩))<|sD 1 rfl (fv a.z.val) (qL 0 g0 8 4 132 64 (tcs a.x.val a.y.val a.z.val) rfl Tryz.underlying64) ?_
 obtain ⟨z1,hz1⟩:∃ z:Fp,z=(0:Fp):=⟨_,rfl⟩
 refine sD 2 rfl (fv z1.val) (qF 74 #[.int .u64 0] (λw=>by rw [hz1]; exact of_c 0 (by decide +kernel) (by decide) w)) ?_
 obtain ⟨b1,hb1⟩:∃ z:Bool,z=decide (a.z.val=z1.val):=⟨_,rfl⟩
 refine sD 3 rfl (.bool b1) (Quiet.pure (λw=>by rw [hb1]; exact eql_fe w _ _ _ _ _ _ rfl rfl rfl lK lK)) ?_
 refine sI ?_
 cases b1
 ·have eb1:a.z≠0:=λe=>of_decide_eq_false hb1.symm (by rw [e,hz1])
  refine sU<|Sy.skip<|Sy.then_<|Sy.seq<|Sy.seq ?_
  refine Sy.regionD (λj=>false) kR ?_
  refine sZ 0 rfl (.pointer (some ⟨g1,8,none⟩))<|sD 1 rfl (fv b.z.val) (qL 1 g1 8 4 132 64 (tcs b.x.val b.y.val b.z.val) rfl Tryz.underlying64) ?_
  obtain ⟨z2,hz2⟩:∃ z:Fp,z=(0:Fp):=⟨_,rfl⟩
  refine sD 2 rfl (fv z2.val) (qF 74 #[.int .u64 0] (λw=>by rw [hz2]; exact of_c 0 (by decide +kernel) (by decide) w)) ?_
  obtain ⟨b2,hb2⟩:∃ z:Bool,z=decide (b.z.val=z2.val):=⟨_,rfl⟩
  refine sD 3 rfl (.bool b2) (Quiet.pure (λw=>by rw [hb2]; exact eql_fe w _ _ _ _ _ _ rfl rfl rfl lK lK)) ?_
  refine sI ?_
  cases b2
  ·have eb2:b.z≠0:=λe=>of_decide_eq_false hb2.symm (by rw [e,hz2])
   refine sU<|Sy.skip<|sB ?_
   refine sS (tv a.x.val a.y.val a.z.val) (qL 0 g0 0 12 132 132 (tcs a.x.val a.y.val a.z.val) rfl Tryz.underlying132)<|sP (.pointer (some ⟨g1,8,none⟩))<|sS (fv b.z.val) (qL 1 g1 8 4 132 64 (tcs b.x.val b.y.val b.z.val) rfl Tryz.underlying64) ?_
   obtain ⟨z3,hz3⟩:∃ z:Fp,z=uJ a b:=⟨_,rfl⟩
   obtain ⟨z4,hz4⟩:∃ z:Fp,z=vJ a b:=⟨_,rfl⟩
   refine sS (.tuple #[fv z3.val,fv z4.val]) (qF 109 #[tv a.x.val a.y.val a.z.val,fv b.z.val] (λw=>by rw [hz3,hz4]; exact widened_c w a b.z))<|sP (.tuple #[fv z3.val,fv z4.val])<|sP (fv z3.val)<|sP (fv z4.val) ?_
   refine sM 64 (fcs 0) (λg3=>?_)
   refine sM 64 (fcs 0) (λg4=>?_)
   refine sW 3 g3 64 (fcs 0) (fcs z3.val) (wS 0 64 (fcs z3.val) rfl)<|sW 4 g4 64 (fcs 0) (fcs z4.val) (wS 0 64 (fcs z4.val) rfl) ?_
   refine sA ?_
   refine sS (tv b.x.val b.y.val b.z.val) (qL 1 g1 0 12 132 132 (tcs b.x.val b.y.val b.z.val) rfl Tryz.underlying132)<|sP (.pointer (some ⟨g0,8,none⟩))<|sS (fv a.z.val) (qL 0 g0 8 4 132 64 (tcs a.x.val a.y.val a.z.val) rfl Tryz.underlying64) ?_
   obtain ⟨z5,hz5⟩:∃ z:Fp,z=uJ b a:=⟨_,rfl⟩
   obtain ⟨z6,hz6⟩:∃ z:Fp,z=vJ b a:=⟨_,rfl⟩
   refine sS (.tuple #[fv z5.val,fv z6.val]) (qF 109 #[tv b.x.val b.y.val b.z.val,fv a.z.val] (λw=>by rw [hz5,hz6]; exact widened_c w b a.z))<|sP (.tuple #[fv z5.val,fv z6.val])<|sP (fv z5.val)<|sP (fv z6.val) ?_
   refine sM 64 (fcs 0) (λg5=>?_)
   refine sM 64 (fcs 0) (λg6=>?_)
   refine sW 5 g5 64 (fcs 0) (fcs z5.val) (wS 0 64 (fcs z5.val) rfl)<|sW 6 g6 64 (fcs 0) (fcs z6.val) (wS 0 64 (fcs z6.val) rfl) ?_
   refine sH (λj=>j == 8 || j == 9) ?_
   refine sD 0 rfl (fv z5.val) (qL 5 g5 0 4 64 64 (fcs z5.val) rfl Tryz.underlying64)<|sD 1 rfl (fv z3.val) (qL 3 g3 0 4 64 64 (fcs z3.val) rfl Tryz.underlying64) ?_
   obtain ⟨z7,hz7⟩:∃ z:Fp,z=z5 - z3:=⟨_,rfl⟩
   refine sD 2 rfl (fv z7.val) (qF 107 #[fv z5.val,fv z3.val] (by rw [hz7]; exact sub_c z5 z3)) ?_
   refine Sy.stepDB 3 [5,8,9] rfl kR (λ_ _ _ _ h=>h) kR (fv z6.val) (qL 6 g6 0 4 64 64 (fcs z6.val) rfl Tryz.underlying64) ?_
   refine Sy.stepDB 4 [5,8,9] rfl kR (λ_ _ _ _ h=>h) kR (fv z4.val) (qL 4 g4 0 4 64 64 (fcs z4.val) rfl Tryz.underlying64) ?_
   obtain ⟨z8,hz8⟩:∃ z:Fp,z=z6 - z4:=⟨_,rfl⟩
   refine sD 5 rfl (fv z8.val) (qF 107 #[fv z6.val,fv z4.val] (by rw [hz8]; exact sub_c z6 z4)) ?_
   refine Sy.makeDuo 6 7 rfl rfl kR kR kR 9 10 rfl rfl rfl (by decide) kR kR kF kF 64 64 (fcs 0) (fcs 0) ptr ptr (λ_ _=>by kernel_rfl) (λ_ _=>by kernel_rfl) (λg7 g8=>?_)
   refine sX 8 rfl 7 g7 64 (fcs 0) (fcs z7.val) (wS 0 64 (fcs z7.val) rfl)<|sX 9 rfl 8 g8 64 (fcs 0) (fcs z8.val) (wS 0 64 (fcs z8.val) rfl) ?_
   refine sI ?_
   refine Sy.seq<|Sy.seq ?_
   refine Sy.regionD (λj=>false) kR ?_
   refine sD 0 rfl (fv z7.val) (qL 7 g7 0 4 64 64 (fcs z7.val) rfl Tryz.underlying64) ?_
   obtain ⟨z9,hz9⟩:∃ z:Fp,z=(0:Fp):=⟨_,rfl⟩
   refine sD 1 rfl (fv z9.val) (qF 74 #[.int .u64 0] (λw=>by rw [hz9]; exact of_c 0 (by decide +kernel) (by decide) w)) ?_
   obtain ⟨b3,hb3⟩:∃ z:Bool,z=decide (z7.val=z9.val):=⟨_,rfl⟩
   refine sD 2 rfl (.bool b3) (Quiet.pure (λw=>by rw [hb3]; exact eql_fe w _ _ _ _ _ _ rfl rfl rfl lK lK))<|sZ 3 rfl (.bool b3) ?_
   cases b3
   ·have eb3:z7≠0:=λe=>of_decide_eq_false hb3.symm (by rw [e,hz9])
    refine sQ 4 rfl<|sQ 5 rfl<|sQ 6 rfl<|sZ 7 rfl (.bool false) ?_
    refine sI ?_
    refine sU<|Sy.skip<|sB ?_
    refine sS (fv z7.val) (qL 7 g7 0 4 64 64 (fcs z7.val) rfl Tryz.underlying64)<|sS (fv z7.val) (qL 7 g7 0 4 64 64 (fcs z7.val) rfl Tryz.underlying64) ?_
    obtain ⟨z10,hz10⟩:∃ z:Fp,z=z7*z7:=⟨_,rfl⟩
    refine sS (fv z10.val) (qF 71 #[fv z7.val,fv z7.val] (by rw [hz10]; exact mul_c z7 z7)) ?_
    refine sM 64 (fcs 0) (λg9=>?_)
    refine sW 9 g9 64 (fcs 0) (fcs z10.val) (wS 0 64 (fcs z10.val) rfl) ?_
    refine sA ?_
    refine sS (fv z10.val) (qL 9 g9 0 4 64 64 (fcs z10.val) rfl Tryz.underlying64)<|sS (fv z7.val) (qL 7 g7 0 4 64 64 (fcs z7.val) rfl Tryz.underlying64) ?_
    obtain ⟨z11,hz11⟩:∃ z:Fp,z=z10*z7:=⟨_,rfl⟩
    refine sS (fv z11.val) (qF 71 #[fv z10.val,fv z7.val] (by rw [hz11]; exact mul_c z10 z7)) ?_
    refine sM 64 (fcs 0) (λg10=>?_)
    refine sW 10 g10 64 (fcs 0) (fcs z11.val) (wS 0 64 (fcs z11.val) rfl) ?_
    refine sA ?_
    refine sS (fv z3.val) (qL 3 g3 0 4 64 64 (fcs z3.val) rfl Tryz.underlying64)<|sS (fv z10.val) (qL 9 g9 0 4 64 64 (fcs z10.val) rfl Tryz.underlying64) ?_
    obtain ⟨z12,hz12⟩:∃ z:Fp,z=z3*z10:=⟨_,rfl⟩
    refine sS (fv z12.val) (qF 71 #[fv z3.val,fv z10.val] (by rw [hz12]; exact mul_c z3 z10))<|sW 3 g3 64 (fcs z3.val) (fcs z12.val) (wS 0 64 (fcs z12.val) rfl) ?_
    refine sA ?_
    refine sM 132 (tcs 0 0 0) (λg11=>?_)
    refine sH (λj=>j == 10) ?_
    refine sD 0 rfl (fv z8.val) (qL 8 g8 0 4 64 64 (fcs z8.val) rfl Tryz.underlying64)<|sD 1 rfl (fv z8.val) (qL 8 g8 0 4 64 64 (fcs z8.val) rfl Tryz.underlying64) ?_
    obtain ⟨z13,hz13⟩:∃ z:Fp,z=z8*z8:=⟨_,rfl⟩
    refine sD 2 rfl (fv z13.val) (qF 71 #[fv z8.val,fv z8.val] (by rw [hz13]; exact mul_c z8 z8))<|sD 3 rfl (fv z11.val) (qL 10 g10 0 4 64 64 (fcs z11.val) rfl Tryz.underlying64) ?_
    obtain ⟨z14,hz14⟩:∃ z:Fp,z=z13 - z11:=⟨_,rfl⟩
    refine sD 4 rfl (fv z14.val) (qF 107 #[fv z13.val,fv z11.val] (by rw [hz14]; exact sub_c z13 z11))<|sD 5 rfl (fv z12.val) (qL 3 g3 0 4 64 64 (fcs z12.val) rfl Tryz.underlying64)<|sD 6 rfl (fv z12.val) (qL 3 g3 0 4 64 64 (fcs z12.val) rfl Tryz.underlying64) ?_
    obtain ⟨z15,hz15⟩:∃ z:Fp,z=z12+z12:=⟨_,rfl⟩
    refine sD 7 rfl (fv z15.val) (qF 73 #[fv z12.val,fv z12.val] (by rw [hz15]; exact add_c z12 z12)) ?_
    obtain ⟨z16,hz16⟩:∃ z:Fp,z=z14 - z15:=⟨_,rfl⟩
    refine sD 8 rfl (fv z16.val) (qF 107 #[fv z14.val,fv z15.val] (by rw [hz16]; exact sub_c z14 z15))<|sZ 9 rfl (.pointer (some ⟨g11,0,none⟩))<|sX 10 rfl 11 g11 132 (tcs 0 0 0) (tcs z16.val 0 0) (wS 0 64 (fcs z16.val) rfl) ?_
    refine sE ?_
    refine sR (λj=>j == 11) ?_
    refine sD 0 rfl (fv z8.val) (qL 8 g8 0 4 64 64 (fcs z8.val) rfl Tryz.underlying64)<|sD 1 rfl (fv z12.val) (qL 3 g3 0 4 64 64 (fcs z12.val) rfl Tryz.underlying64)<|sZ 2 rfl (.pointer (some ⟨g11,0,none⟩))<|sD 3 rfl (fv z16.val) (qL 11 g11 0 4 132 64 (tcs z16.val 0 0) rfl Tryz.underlying64) ?_
    obtain ⟨z17,hz17⟩:∃ z:Fp,z=z12 - z16:=⟨_,rfl⟩
    refine sD 4 rfl (fv z17.val) (qF 107 #[fv z12.val,fv z16.val] (by rw [hz17]; exact sub_c z12 z16)) ?_
    obtain ⟨z18,hz18⟩:∃ z:Fp,z=z8*z17:=⟨_,rfl⟩
    refine sD 5 rfl (fv z18.val) (qF 71 #[fv z8.val,fv z17.val] (by rw [hz18]; exact mul_c z8 z17))<|sD 6 rfl (fv z4.val) (qL 4 g4 0 4 64 64 (fcs z4.val) rfl Tryz.underlying64)<|sD 7 rfl (fv z11.val) (qL 10 g10 0 4 64 64 (fcs z11.val) rfl Tryz.underlying64) ?_
    obtain ⟨z19,hz19⟩:∃ z:Fp,z=z4*z11:=⟨_,rfl⟩
    refine sD 8 rfl (fv z19.val) (qF 71 #[fv z4.val,fv z11.val] (by rw [hz19]; exact mul_c z4 z11)) ?_
    obtain ⟨z20,hz20⟩:∃ z:Fp,z=z18 - z19:=⟨_,rfl⟩
    refine sD 9 rfl (fv z20.val) (qF 107 #[fv z18.val,fv z19.val] (by rw [hz20]; exact sub_c z18 z19))<|sZ 10 rfl (.pointer (some ⟨g11,4,none⟩))<|sX 11 rfl 11 g11 132 (tcs z16.val 0 0) (tcs z16.val z20.val 0) (wS 4 64 (fcs z20.val) rfl) ?_
    refine sE ?_
    refine sR (λj=>j == 8) ?_
    refine sZ 0 rfl (.pointer (some ⟨g0,8,none⟩))<|sD 1 rfl (fv a.z.val) (qL 0 g0 8 4 132 64 (tcs a.x.val a.y.val a.z.val) rfl Tryz.underlying64)<|sZ 2 rfl (.pointer (some ⟨g1,8,none⟩))<|sD 3 rfl (fv b.z.val) (qL 1 g1 8 4 132 64 (tcs b.x.val b.y.val b.z.val) rfl Tryz.underlying64) ?_
    obtain ⟨z21,hz21⟩:∃ z:Fp,z=a.z*b.z:=⟨_,rfl⟩
    refine sD 4 rfl (fv z21.val) (qF 71 #[fv a.z.val,fv b.z.val] (by rw [hz21]; exact mul_c a.z b.z))<|sD 5 rfl (fv z7.val) (qL 7 g7 0 4 64 64 (fcs z7.val) rfl Tryz.underlying64) ?_
    obtain ⟨z22,hz22⟩:∃ z:Fp,z=z21*z7:=⟨_,rfl⟩
    refine sD 6 rfl (fv z22.val) (qF 71 #[fv z21.val,fv z7.val] (by rw [hz22]; exact mul_c z21 z7))<|sZ 7 rfl (.pointer (some ⟨g11,8,none⟩))<|sX 8 rfl 11 g11 132 (tcs z16.val z20.val 0) (tcs z16.val z20.val z22.val) (wS 8 64 (fcs z22.val) rfl) ?_
    refine sE ?_
    refine sB ?_
    refine sS (tv z16.val z20.val z22.val) (qL 11 g11 0 12 132 132 (tcs z16.val z20.val z22.val) rfl Tryz.underlying132)<|sW 2 g2 132 (tcs 0 0 0) (tcs z16.val z20.val z22.val) (wS 0 132 (tcs z16.val z20.val z22.val) rfl) ?_
    refine sG<|Sy.ret ?_
    rw [show (tv (addJ a b).x.val (addJ a b).y.val (addJ a b).z.val:Value)=tv z16.val z20.val z22.val from by
     rw [addJ_4 eb1 eb2 (λk=>eb3 (by rw [hz7,hz3,hz5]; exact k.1))]
     simp only [hz22,hz21,hz20,hz19,hz18,hz17,hz16,hz15,hz14,hz13,hz12,hz11,hz10,hz8,hz7,hz6,hz5,hz4,hz3]
     rfl]
    exact rC (v:=tv z16.val z20.val z22.val) 132 g2 2 (tcs z16.val z20.val z22.val) rfl Tryz.underlying132
   ·have eb3:z7=0:=(Fin.ext (of_decide_eq_true hb3.symm)).trans hz9
    refine sD 4 rfl (fv z8.val) (qL 8 g8 0 4 64 64 (fcs z8.val) rfl Tryz.underlying64) ?_
    obtain ⟨z23,hz23⟩:∃ z:Fp,z=(0:Fp):=⟨_,rfl⟩
    refine sD 5 rfl (fv z23.val) (qF 74 #[.int .u64 0] (λw=>by rw [hz23]; exact of_c 0 (by decide +kernel) (by decide) w)) ?_
    obtain ⟨b4,hb4⟩:∃ z:Bool,z=decide (z8.val=z23.val):=⟨_,rfl⟩
    refine sD 6 rfl (.bool b4) (Quiet.pure (λw=>by rw [hb4]; exact eql_fe w _ _ _ _ _ _ rfl rfl rfl lK lK))<|sZ 7 rfl (.bool b4) ?_
    refine sI ?_
    cases b4
    ·have eb4:z8≠0:=λe=>of_decide_eq_false hb4.symm (by rw [e,hz23])
     refine sU<|Sy.skip<|sB ?_
     refine sS (fv z7.val) (qL 7 g7 0 4 64 64 (fcs z7.val) rfl Tryz.underlying64)<|sS (fv z7.val) (qL 7 g7 0 4 64 64 (fcs z7.val) rfl Tryz.underlying64) ?_
     obtain ⟨z24,hz24⟩:∃ z:Fp,z=z7*z7:=⟨_,rfl⟩
     refine sS (fv z24.val) (qF 71 #[fv z7.val,fv z7.val] (by rw [hz24]; exact mul_c z7 z7)) ?_
     refine sM 64 (fcs 0) (λg12=>?_)
     refine sW 9 g12 64 (fcs 0) (fcs z24.val) (wS 0 64 (fcs z24.val) rfl) ?_
     refine sA ?_
     refine sS (fv z24.val) (qL 9 g12 0 4 64 64 (fcs z24.val) rfl Tryz.underlying64)<|sS (fv z7.val) (qL 7 g7 0 4 64 64 (fcs z7.val) rfl Tryz.underlying64) ?_
     obtain ⟨z25,hz25⟩:∃ z:Fp,z=z24*z7:=⟨_,rfl⟩
     refine sS (fv z25.val) (qF 71 #[fv z24.val,fv z7.val] (by rw [hz25]; exact mul_c z24 z7)) ?_
     refine sM 64 (fcs 0) (λg13=>?_)
     refine sW 10 g13 64 (fcs 0) (fcs z25.val) (wS 0 64 (fcs z25.val) rfl) ?_
     refine sA ?_
     refine sS (fv z3.val) (qL 3 g3 0 4 64 64 (fcs z3.val) rfl Tryz.underlying64)<|sS (fv z24.val) (qL 9 g12 0 4 64 64 (fcs z24.val) rfl Tryz.underlying64) ?_
     obtain ⟨z26,hz26⟩:∃ z:Fp,z=z3*z24:=⟨_,rfl⟩
     refine sS (fv z26.val) (qF 71 #[fv z3.val,fv z24.val] (by rw [hz26]; exact mul_c z3 z24))<|sW 3 g3 64 (fcs z3.val) (fcs z26.val) (wS 0 64 (fcs z26.val) rfl) ?_
     refine sA ?_
     refine sM 132 (tcs 0 0 0) (λg14=>?_)
     refine sH (λj=>j == 10) ?_
     refine sD 0 rfl (fv z8.val) (qL 8 g8 0 4 64 64 (fcs z8.val) rfl Tryz.underlying64)<|sD 1 rfl (fv z8.val) (qL 8 g8 0 4 64 64 (fcs z8.val) rfl Tryz.underlying64) ?_
     obtain ⟨z27,hz27⟩:∃ z:Fp,z=z8*z8:=⟨_,rfl⟩
     refine sD 2 rfl (fv z27.val) (qF 71 #[fv z8.val,fv z8.val] (by rw [hz27]; exact mul_c z8 z8))<|sD 3 rfl (fv z25.val) (qL 10 g13 0 4 64 64 (fcs z25.val) rfl Tryz.underlying64) ?_
     obtain ⟨z28,hz28⟩:∃ z:Fp,z=z27 - z25:=⟨_,rfl⟩
     refine sD 4 rfl (fv z28.val) (qF 107 #[fv z27.val,fv z25.val] (by rw [hz28]; exact sub_c z27 z25))<|sD 5 rfl (fv z26.val) (qL 3 g3 0 4 64 64 (fcs z26.val) rfl Tryz.underlying64)<|sD 6 rfl (fv z26.val) (qL 3 g3 0 4 64 64 (fcs z26.val) rfl Tryz.underlying64) ?_
     obtain ⟨z29,hz29⟩:∃ z:Fp,z=z26+z26:=⟨_,rfl⟩
     refine sD 7 rfl (fv z29.val) (qF 73 #[fv z26.val,fv z26.val] (by rw [hz29]; exact add_c z26 z26)) ?_
     obtain ⟨z30,hz30⟩:∃ z:Fp,z=z28 - z29:=⟨_,rfl⟩
     refine sD 8 rfl (fv z30.val) (qF 107 #[fv z28.val,fv z29.val] (by rw [hz30]; exact sub_c z28 z29))<|sZ 9 rfl (.pointer (some ⟨g14,0,none⟩))<|sX 10 rfl 11 g14 132 (tcs 0 0 0) (tcs z30.val 0 0) (wS 0 64 (fcs z30.val) rfl) ?_
     refine sE ?_
     refine sR (λj=>j == 11) ?_
     refine sD 0 rfl (fv z8.val) (qL 8 g8 0 4 64 64 (fcs z8.val) rfl Tryz.underlying64)<|sD 1 rfl (fv z26.val) (qL 3 g3 0 4 64 64 (fcs z26.val) rfl Tryz.underlying64)<|sZ 2 rfl (.pointer (some ⟨g14,0,none⟩))<|sD 3 rfl (fv z30.val) (qL 11 g14 0 4 132 64 (tcs z30.val 0 0) rfl Tryz.underlying64) ?_
     obtain ⟨z31,hz31⟩:∃ z:Fp,z=z26 - z30:=⟨_,rfl⟩
     refine sD 4 rfl (fv z31.val) (qF 107 #[fv z26.val,fv z30.val] (by rw [hz31]; exact sub_c z26 z30)) ?_
     obtain ⟨z32,hz32⟩:∃ z:Fp,z=z8*z31:=⟨_,rfl⟩
     refine sD 5 rfl (fv z32.val) (qF 71 #[fv z8.val,fv z31.val] (by rw [hz32]; exact mul_c z8 z31))<|sD 6 rfl (fv z4.val) (qL 4 g4 0 4 64 64 (fcs z4.val) rfl Tryz.underlying64)<|sD 7 rfl (fv z25.val) (qL 10 g13 0 4 64 64 (fcs z25.val) rfl Tryz.underlying64) ?_
     obtain ⟨z33,hz33⟩:∃ z:Fp,z=z4*z25:=⟨_,rfl⟩
     refine sD 8 rfl (fv z33.val) (qF 71 #[fv z4.val,fv z25.val] (by rw [hz33]; exact mul_c z4 z25)) ?_
     obtain ⟨z34,hz34⟩:∃ z:Fp,z=z32 - z33:=⟨_,rfl⟩
     refine sD 9 rfl (fv z34.val) (qF 107 #[fv z32.val,fv z33.val] (by rw [hz34]; exact sub_c z32 z33))<|sZ 10 rfl (.pointer (some ⟨g14,4,none⟩))<|sX 11 rfl 11 g14 132 (tcs z30.val 0 0) (tcs z30.val z34.val 0) (wS 4 64 (fcs z34.val) rfl) ?_
     refine sE ?_
     refine sR (λj=>j == 8) ?_
     refine sZ 0 rfl (.pointer (some ⟨g0,8,none⟩))<|sD 1 rfl (fv a.z.val) (qL 0 g0 8 4 132 64 (tcs a.x.val a.y.val a.z.val) rfl Tryz.underlying64)<|sZ 2 rfl (.pointer (some ⟨g1,8,none⟩))<|sD 3 rfl (fv b.z.val) (qL 1 g1 8 4 132 64 (tcs b.x.val b.y.val b.z.val) rfl Tryz.underlying64) ?_
     obtain ⟨z35,hz35⟩:∃ z:Fp,z=a.z*b.z:=⟨_,rfl⟩
     refine sD 4 rfl (fv z35.val) (qF 71 #[fv a.z.val,fv b.z.val] (by rw [hz35]; exact mul_c a.z b.z))<|sD 5 rfl (fv z7.val) (qL 7 g7 0 4 64 64 (fcs z7.val) rfl Tryz.underlying64) ?_
     obtain ⟨z36,hz36⟩:∃ z:Fp,z=z35*z7:=⟨_,rfl⟩
     refine sD 6 rfl (fv z36.val) (qF 71 #[fv z35.val,fv z7.val] (by rw [hz36]; exact mul_c z35 z7))<|sZ 7 rfl (.pointer (some ⟨g14,8,none⟩))<|sX 8 rfl 11 g14 132 (tcs z30.val z34.val 0) (tcs z30.val z34.val z36.val) (wS 8 64 (fcs z36.val) rfl) ?_
     refine sE ?_
     refine sB ?_
     refine sS (tv z30.val z34.val z36.val) (qL 11 g14 0 12 132 132 (tcs z30.val z34.val z36.val) rfl Tryz.underlying132)<|sW 2 g2 132 (tcs 0 0 0) (tcs z30.val z34.val z36.val) (wS 0 132 (tcs z30.val z34.val z36.val) rfl) ?_
     refine sG<|Sy.ret ?_
     rw [show (tv (addJ a b).x.val (addJ a b).y.val (addJ a b).z.val:Value)=tv z30.val z34.val z36.val from by
      rw [addJ_4 eb1 eb2 (λk=>eb4 (by rw [hz8,hz4,hz6]; exact k.2))]
      simp only [hz36,hz35,hz34,hz33,hz32,hz31,hz30,hz29,hz28,hz27,hz26,hz25,hz24,hz8,hz7,hz6,hz5,hz4,hz3]
      rfl]
     exact rC (v:=tv z30.val z34.val z36.val) 132 g2 2 (tcs z30.val z34.val z36.val) rfl Tryz.underlying132
    ·have eb4:z8=0:=(Fin.ext (of_decide_eq_true hb4.symm)).trans hz23
     refine sT<|sC ?_
     refine sS (tv a.x.val a.y.val a.z.val) (qL 0 g0 0 12 132 132 (tcs a.x.val a.y.val a.z.val) rfl Tryz.underlying132)<|sS (tv ((dblJ a).x.val) ((dblJ a).y.val) ((dblJ a).z.val)) (qF 110 #[tv a.x.val a.y.val a.z.val] (λw=>double_c w a))<|sW 2 g2 132 (tcs 0 0 0) (tcs ((dblJ a).x.val) ((dblJ a).y.val) ((dblJ a).z.val)) (wS 0 132 (tcs ((dblJ a).x.val) ((dblJ a).y.val) ((dblJ a).z.val)) rfl) ?_
     refine sG<|Sy.ret<|Sy.then_ret ?_
     rw [show (tv (addJ a b).x.val (addJ a b).y.val (addJ a b).z.val:Value)=tv ((dblJ a).x.val) ((dblJ a).y.val) ((dblJ a).z.val) from by rw [addJ_3 eb1 eb2 (by rw [← eb3,hz7,hz3,hz5]; rfl) (by rw [← eb4,hz8,hz4,hz6]; rfl)]]
     exact rC (v:=tv ((dblJ a).x.val) ((dblJ a).y.val) ((dblJ a).z.val)) 132 g2 2 (tcs ((dblJ a).x.val) ((dblJ a).y.val) ((dblJ a).z.val)) rfl Tryz.underlying132
  ·have eb2:b.z=0:=(Fin.ext (of_decide_eq_true hb2.symm)).trans hz2
   refine sT<|sC ?_
   refine sS (tv a.x.val a.y.val a.z.val) (qL 0 g0 0 12 132 132 (tcs a.x.val a.y.val a.z.val) rfl Tryz.underlying132)<|sW 2 g2 132 (tcs 0 0 0) (tcs a.x.val a.y.val a.z.val) (wS 0 132 (tcs a.x.val a.y.val a.z.val) rfl) ?_
   refine sG<|Sy.ret<|Sy.then_ret ?_
   rw [show (tv (addJ a b).x.val (addJ a b).y.val (addJ a b).z.val:Value)=tv a.x.val a.y.val a.z.val from by rw [addJ_2 eb1 eb2]]
   exact rC (v:=tv a.x.val a.y.val a.z.val) 132 g2 2 (tcs a.x.val a.y.val a.z.val) rfl Tryz.underlying132
 ·have eb1:a.z=0:=(Fin.ext (of_decide_eq_true hb1.symm)).trans hz1
  refine sT<|sC ?_
  refine sS (tv b.x.val b.y.val b.z.val) (qL 1 g1 0 12 132 132 (tcs b.x.val b.y.val b.z.val) rfl Tryz.underlying132)<|sW 2 g2 132 (tcs 0 0 0) (tcs b.x.val b.y.val b.z.val) (wS 0 132 (tcs b.x.val b.y.val b.z.val) rfl) ?_
  refine sG<|Sy.ret<|Sy.then_ret ?_
  rw [show (tv (addJ a b).x.val (addJ a b).y.val (addJ a b).z.val:Value)=tv b.x.val b.y.val b.z.val from by rw [addJ_1 eb1]]
  exact rC (v:=tv b.x.val b.y.val b.z.val) 132 g2 2 (tcs b.x.val b.y.val b.z.val) rfl Tryz.underlying132
end Cu
end
section
namespace Cu
open Go.RowKit Sy
set_option maxRecDepth 100000
set_option maxHeartbeats 4000000
def threeJ:Pt→J
 | none=>⟨0,0,0⟩
 | some (x,y)=>⟨x,y,1⟩
theorem threeJ_rep:∀ P:Pt,Ec.Rep (threeJ P) P
 | none=>rfl
 | some (x,y)=>by
  refine ⟨(by decide +kernel:(1:Fp)≠0),?_,?_⟩
  ·show x=x*(1*1)
   grobner
  ·show y=y*(1*1*1)
   grobner
def ptJ (a:J):Pt:=if a.z=0 then none else some (a.x*(finv a.z*finv a.z),a.y*(finv a.z*finv a.z*finv a.z))
theorem ptJ_rep {a:J} {P:Pt} (h:Ec.Rep a P):ptJ a=P:=by
 rcases Ec.rep_point fld h with ⟨h1,h2⟩ | ⟨h1,h2⟩
 ·unfold ptJ; rw [if_pos h1,h2]
 ·unfold ptJ; rw [if_neg h1,h2]
theorem three_n (w:World)  : Calls Tryz.prog 124 #[pv 0 0 true] w (Gets w (tv 0 0 0)):=by
 refine Sy.enter (args:=[pv 0 0 true]) Tryz.func124 rfl kL ?_
 refine sC ?_
 refine sM 66 (pcs 0 0 true) (λg0=>?_)
 refine sM 132 (tcs 0 0 0) (λg1=>?_)
 refine sG<|Sy.seq<|Sy.seq ?_
 refine Sy.regionD (λj=>false) kR ?_
 refine sD 0 rfl (pv 0 0 true) (qL 0 g0 0 9 66 66 (pcs 0 0 true) rfl Tryz.underlying66)<|sD 1 rfl (pv 0 0 true) (qF 45 #[] (zero_c))<|sD 2 rfl (.bool true) (Quiet.pure (λw=>eql_pt w _ _ _ _ 0 0 true 0 0 true rfl rfl rfl (by decide) (by decide) (by decide) (by decide))) ?_
 refine sI ?_
 refine sT<|sC ?_
 refine sP (tv 0 0 0)<|sW 1 g1 132 (tcs 0 0 0) (tcs 0 0 0) (wS 0 132 (tcs 0 0 0) rfl) ?_
 refine sG<|Sy.ret<|Sy.then_ret ?_
 exact rC (v:=tv 0 0 0) 132 g1 1 (tcs 0 0 0) rfl Tryz.underlying132
theorem three_s (w:World) (u v:Fp):Calls Tryz.prog 124 #[pv u.val v.val false] w (Gets w (tv u.val v.val (1:Fp).val)):=by
 refine Sy.enter (args:=[pv u.val v.val false]) Tryz.func124 rfl kL ?_
 refine sC ?_
 refine sM 66 (pcs u.val v.val false) (λg0=>?_)
 refine sM 132 (tcs 0 0 0) (λg1=>?_)
 refine sG<|Sy.seq<|Sy.seq ?_
 refine Sy.regionD (λj=>false) kR ?_
 refine sD 0 rfl (pv u.val v.val false) (qL 0 g0 0 9 66 66 (pcs u.val v.val false) rfl Tryz.underlying66)<|sD 1 rfl (pv 0 0 true) (qF 45 #[] (zero_c))<|sD 2 rfl (.bool false) (Quiet.pure (λw=>eql_pt_ne w _ _ _ _ _ _ _ _ _ _ rfl rfl rfl lK lK lK lK (by decide))) ?_
 refine sI ?_
 refine sU<|Sy.skip ?_
 refine sR (λj=>j == 6) ?_
 refine sZ 0 rfl (.pointer (some ⟨g0,0,none⟩))<|sD 1 rfl (fv u.val) (qL 0 g0 0 4 66 64 (pcs u.val v.val false) rfl Tryz.underlying64)<|sZ 2 rfl (.pointer (some ⟨g0,4,none⟩))<|sD 3 rfl (fv v.val) (qL 0 g0 4 4 66 64 (pcs u.val v.val false) rfl Tryz.underlying64) ?_
 obtain ⟨z1,hz1⟩:∃ z:Fp,z=(1:Fp):=⟨_,rfl⟩
 refine sD 4 rfl (fv z1.val) (qF 74 #[.int .u64 1] (λw=>by rw [hz1]; exact of_c 1 (by decide +kernel) (by decide) w))<|sZ 5 rfl (tv u.val v.val z1.val)<|sX 6 rfl 1 g1 132 (tcs 0 0 0) (tcs u.val v.val z1.val) (wS 0 132 (tcs u.val v.val z1.val) rfl) ?_
 refine sI ?_
 refine Sy.ret ?_
 rw [show (tv u.val v.val (1:Fp).val:Value)=tv u.val v.val z1.val from by rw [hz1]]
 exact rC (v:=tv u.val v.val z1.val) 132 g1 1 (tcs u.val v.val z1.val) rfl Tryz.underlying132
theorem three_c (w:World) (P:Pt):Calls Tryz.prog 124 #[ptv P] w (Gets w (jv (threeJ P))):=by
 rcases P with _ | ⟨u,v⟩
 ·exact three_n w
 ·exact three_s w u v
theorem point_c (w:World) (a:J):Calls Tryz.prog 78 #[tv a.x.val a.y.val a.z.val] w (Gets w (ptv (ptJ a))):=by
 refine Sy.enter (args:=[tv a.x.val a.y.val a.z.val]) Tryz.func78 rfl kL ?_
 refine sC ?_
 refine sM 132 (tcs a.x.val a.y.val a.z.val) (λg0=>?_)
 refine sM 66 (pcs 0 0 false) (λg1=>?_)
 refine sG<|Sy.seq<|Sy.seq ?_
 refine Sy.regionD (λj=>false) kR ?_
 refine sZ 0 rfl (.pointer (some ⟨g0,8,none⟩))<|sD 1 rfl (fv a.z.val) (qL 0 g0 8 4 132 64 (tcs a.x.val a.y.val a.z.val) rfl Tryz.underlying64) ?_
 obtain ⟨z1,hz1⟩:∃ z:Fp,z=(0:Fp):=⟨_,rfl⟩
 refine sD 2 rfl (fv z1.val) (qF 74 #[.int .u64 0] (λw=>by rw [hz1]; exact of_c 0 (by decide +kernel) (by decide) w)) ?_
 obtain ⟨b1,hb1⟩:∃ z:Bool,z=decide (a.z.val=z1.val):=⟨_,rfl⟩
 refine sD 3 rfl (.bool b1) (Quiet.pure (λw=>by rw [hb1]; exact eql_fe w _ _ _ _ _ _ rfl rfl rfl lK lK)) ?_
 refine sI ?_
 cases b1
 ·have eb1:a.z≠0:=λe=>of_decide_eq_false hb1.symm (by rw [e,hz1])
  refine sU<|Sy.skip<|sB ?_
  refine sP (.pointer (some ⟨g0,8,none⟩))<|sS (fv a.z.val) (qL 0 g0 8 4 132 64 (tcs a.x.val a.y.val a.z.val) rfl Tryz.underlying64) ?_
  obtain ⟨z2,hz2⟩:∃ z:Fp,z=finv a.z:=⟨_,rfl⟩
  refine sS (fv z2.val) (qF 114 #[fv a.z.val] (by rw [hz2]; exact inv_c a.z)) ?_
  refine sM 64 (fcs 0) (λg2=>?_)
  refine sW 2 g2 64 (fcs 0) (fcs z2.val) (wS 0 64 (fcs z2.val) rfl) ?_
  refine sA ?_
  refine sS (fv z2.val) (qL 2 g2 0 4 64 64 (fcs z2.val) rfl Tryz.underlying64)<|sS (fv z2.val) (qL 2 g2 0 4 64 64 (fcs z2.val) rfl Tryz.underlying64) ?_
  obtain ⟨z3,hz3⟩:∃ z:Fp,z=z2*z2:=⟨_,rfl⟩
  refine sS (fv z3.val) (qF 71 #[fv z2.val,fv z2.val] (by rw [hz3]; exact mul_c z2 z2)) ?_
  refine sM 64 (fcs 0) (λg3=>?_)
  refine sW 3 g3 64 (fcs 0) (fcs z3.val) (wS 0 64 (fcs z3.val) rfl) ?_
  refine sH (λj=>j == 11) ?_
  refine sZ 0 rfl (.pointer (some ⟨g0,0,none⟩))<|sD 1 rfl (fv a.x.val) (qL 0 g0 0 4 132 64 (tcs a.x.val a.y.val a.z.val) rfl Tryz.underlying64)<|sD 2 rfl (fv z3.val) (qL 3 g3 0 4 64 64 (fcs z3.val) rfl Tryz.underlying64) ?_
  obtain ⟨z4,hz4⟩:∃ z:Fp,z=a.x*z3:=⟨_,rfl⟩
  refine sD 3 rfl (fv z4.val) (qF 71 #[fv a.x.val,fv z3.val] (by rw [hz4]; exact mul_c a.x z3))<|sZ 4 rfl (.pointer (some ⟨g0,4,none⟩))<|sD 5 rfl (fv a.y.val) (qL 0 g0 4 4 132 64 (tcs a.x.val a.y.val a.z.val) rfl Tryz.underlying64)<|sD 6 rfl (fv z3.val) (qL 3 g3 0 4 64 64 (fcs z3.val) rfl Tryz.underlying64)<|sD 7 rfl (fv z2.val) (qL 2 g2 0 4 64 64 (fcs z2.val) rfl Tryz.underlying64) ?_
  obtain ⟨z5,hz5⟩:∃ z:Fp,z=z3*z2:=⟨_,rfl⟩
  refine sD 8 rfl (fv z5.val) (qF 71 #[fv z3.val,fv z2.val] (by rw [hz5]; exact mul_c z3 z2)) ?_
  obtain ⟨z6,hz6⟩:∃ z:Fp,z=a.y*z5:=⟨_,rfl⟩
  refine sD 9 rfl (fv z6.val) (qF 71 #[fv a.y.val,fv z5.val] (by rw [hz6]; exact mul_c a.y z5))<|sZ 10 rfl (pv z4.val z6.val false)<|sX 11 rfl 1 g1 66 (pcs 0 0 false) (pcs z4.val z6.val false) (wS 0 66 (pcs z4.val z6.val false) rfl) ?_
  refine sI ?_
  refine Sy.ret ?_
  rw [show (ptv (ptJ a):Value)=pv z4.val z6.val false from by unfold ptJ; rw [if_neg eb1]; unfold ptv; simp only [hz6,hz5,hz4,hz3,hz2]]
  exact rC (v:=pv z4.val z6.val false) 66 g1 1 (pcs z4.val z6.val false) rfl Tryz.underlying66
 ·have eb1:a.z=0:=(Fin.ext (of_decide_eq_true hb1.symm)).trans hz1
  refine sT<|sC ?_
  refine sS (pv 0 0 true) (qF 45 #[] (zero_c))<|sW 1 g1 66 (pcs 0 0 false) (pcs 0 0 true) (wS 0 66 (pcs 0 0 true) rfl) ?_
  refine sG<|Sy.ret<|Sy.then_ret ?_
  rw [show (ptv (ptJ a):Value)=pv 0 0 true from by unfold ptJ; rw [if_pos eb1]; rfl]
  exact rC (v:=pv 0 0 true) 66 g1 1 (pcs 0 0 true) rfl Tryz.underlying66
end Cu
end
section
namespace Sc
open Go.RowKit
def pM:Nat:=115792089237316195423570985008687907852837564279074904382605163141518161494337
theorem pM_eq:pM=115792089237316195423570985008687907852837564279074904382605163141518161494337:=rfl
theorem mod_lt (n:Nat):n%pM<(2^256):=by have:=Nat.mod_lt n (show 0<pM by decide); rw [pM_eq] at this ⊢; omega
theorem mod_lt_p (n:Nat):n%pM<pM:=Nat.mod_lt n (by decide)
def addP (x y:Nat):Nat:=(x+y)%pM
def negP (x:Nat):Nat:=(pM - x%pM)%pM
def mulP (x y:Nat):Nat:=x*y%pM
theorem addP_lt (x y:Nat):addP x y<(2^256):=mod_lt _
theorem mod_of_mult {x z k:Nat} (h:z+115792089237316195423570985008687907852837564279074904382605163141518161494337*k=x):z%pM=x%pM:=by
 rw [← h,pM_eq,Nat.add_mul_mod_self_left]
end Sc
end
end Go.Proofs.YtgggdbjakcpanabGreatDoor
