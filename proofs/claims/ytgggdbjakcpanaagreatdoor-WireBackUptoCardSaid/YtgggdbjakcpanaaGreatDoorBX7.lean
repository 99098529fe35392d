/-
  Texts of ours, put together: WirGN, WirGO, WirGS, WirHA, EcJ, CrvJ, CrvK, CrvL, CrvM, CrvP, CrvQ, EcW, CrvR, CrvS, CrvT, CrvU, SigA, SigB, WirHB, WirHC, ScRefN, ScFold, ScRefAdd, ScRefMul, ScNum, CrvO, CrvV, RefNumT, WirGQ, WirGT, WirGU, WirHD, WirHE, WirHF, WirHG, WirHH, MSpec, Bits, MCut, Ord2, MNode, MRoot, WirHI, WirAA, WireBackL.
-/
import Derived.Test.YtgggdbjakcpanaaGreatDoorBX6
set_option linter.unusedVariables false
set_option linter.unusedSimpArgs false
namespace Go.Proofs.YtgggdbjakcpanaaGreatDoor
section
namespace Wr
open Go.RowKit Sy
set_option maxRecDepth 100000
set_option maxHeartbeats 4000000
theorem fitSC:Fits rdSC okSC encSC (λn=>n<Cu.K4):=by
 refine ⟨λ{l r x} h=>?_,λ{x} r hx hd=>?_⟩
 ·obtain ⟨b,r1,h1,u1⟩:=bindI h
  obtain ⟨_,r2,h2,u2⟩:=bindI u1
  obtain ⟨hz,rfl⟩:=mustI h2
  cases u2
  obtain ⟨⟨_,h5⟩,rfl⟩:=(fitTake 32).inv h1
  have e:Sc.readS b=(valB b,true)∧valB b<Sc.pM:=by
   unfold Sc.readS at hz ⊢
   by_cases hv:valB b<Sc.pM
   ·rw [if_pos hv]; exact ⟨rfl,hv⟩
   ·rw [if_neg hv] at hz; cases hz
  rw [e.1]
  have em:valB b%Sc.pM=valB b:=Nat.mod_eq_of_lt e.2
  refine ⟨⟨by unfold okSC; exact decide_eq_true em,valB_lt32 b h5⟩,?_⟩
  unfold encSC
  rw [em,bytesS_valB b h5]
 ·have em:=of_decide_eq_true hx
  have hlt:x<Sc.pM:=by rw [← em]; exact Nat.mod_lt _ (by decide)
  have hv:valB (bytesS x)=x:=valB_bytesS x hd
  unfold rdSC encSC
  rw [em,bind_some ((fitTake 32).fwd r rfl (bytesS_length x))]
  have e:Sc.readS (bytesS x)=(x,true):=by unfold Sc.readS; rw [hv,if_pos hlt]
  rw [e]
  rfl
theorem nul_pt {p:MPt} (hd:p.x<Cu.K4∧p.y<Cu.K4) (h:nulPT p=true):p=⟨0,0,false⟩:=by
 obtain ⟨x,y,i⟩:=p
 unfold nulPT Cu.sameB at h
 simp only [Bool.and_eq_true,decide_eq_true_eq,beq_iff_eq] at h
 obtain ⟨rfl,rfl,rfl⟩:=h
 rfl
def domTG (t:MTag):Prop:=t.id.length=32∧t.pt.x<Cu.K4∧t.pt.y<Cu.K4
theorem fitTG:Fits rdTG okTG encTG domTG:=by
 refine ⟨λ{l r x} h=>?_,λ{x} r hx hd=>?_⟩
 ·obtain ⟨b,r1,h1,u3⟩:=bindI h
  obtain ⟨_,rfl⟩:=fitTru.inv h1
  cases b
  ·rw [if_neg (by decide)] at u3
   obtain ⟨d,r2,h2,u4⟩:=bindI u3
   cases u4
   obtain ⟨⟨_,h3⟩,rfl⟩:=(fitTake 32).inv h2
   exact ⟨⟨rfl,h3,(show 0<Cu.K4 by decide),(show 0<Cu.K4 by decide)⟩,by unfold encTG; rfl⟩
  ·rw [if_pos rfl] at u3
   obtain ⟨d,r2,h2,u5⟩:=bindI u3
   cases u5
   obtain ⟨⟨h3,h4⟩,rfl⟩:=fitPt.inv h2
   refine ⟨⟨?_,rfl,h4⟩,by unfold encTG; rfl⟩
   unfold okTG; rw [if_pos rfl,h3]; rfl
 ·obtain ⟨b,d,p⟩:=x
  obtain ⟨h1,h2⟩:=hd
  unfold okTG at hx
  unfold encTG rdTG
  dsimp only at h1 h2 hx ⊢
  cases b
  ·rw [if_neg (by decide)] at hx ⊢
   obtain rfl:=nul_pt h2 hx
   rw [List.append_assoc,bind_some (fitTru.fwd _ rfl trivial),if_neg (by decide),bind_some ((fitTake 32).fwd r rfl h1)]
   rfl
  ·rw [if_pos rfl] at hx ⊢
   rw [Bool.and_eq_true] at hx
   obtain rfl:=of_decide_eq_true hx.2
   rw [List.append_assoc,bind_some (fitTru.fwd _ rfl trivial),if_pos rfl,bind_some (fitPt.fwd r hx.1 h2)]
   rfl
def domAM (t:MAmt):Prop:=t.value<18446744073709551616∧t.pt.x<Cu.K4∧t.pt.y<Cu.K4
theorem fitAM:Fits rdAM okAM encAM domAM:=by
 refine ⟨λ{l r x} h=>?_,λ{x} r hx hd=>?_⟩
 ·obtain ⟨b,r1,h1,u6⟩:=bindI h
  obtain ⟨_,rfl⟩:=fitTru.inv h1
  cases b
  ·rw [if_neg (by decide)] at u6
   obtain ⟨d,r2,h2,u7⟩:=bindI u6
   cases u7
   obtain ⟨⟨_,h3⟩,rfl⟩:=(fitNum 8).inv h2
   exact ⟨⟨rfl,h3,(show 0<Cu.K4 by decide),(show 0<Cu.K4 by decide)⟩,by unfold encAM; rfl⟩
  ·rw [if_pos rfl] at u6
   obtain ⟨d,r2,h2,u8⟩:=bindI u6
   cases u8
   obtain ⟨⟨h3,h4⟩,rfl⟩:=fitPt.inv h2
   refine ⟨⟨?_,(show 0<18446744073709551616 by decide),h4⟩,by unfold encAM; rfl⟩
   unfold okAM; rw [if_pos rfl,h3]; rfl
 ·obtain ⟨b,d,p⟩:=x
  obtain ⟨h1,h2⟩:=hd
  unfold okAM at hx
  unfold encAM rdAM
  dsimp only at h1 h2 hx ⊢
  cases b
  ·rw [if_neg (by decide)] at hx ⊢
   obtain rfl:=nul_pt h2 hx
   rw [List.append_assoc,bind_some (fitTru.fwd _ rfl trivial),if_neg (by decide),bind_some ((fitNum 8).fwd r rfl h1)]
   rfl
  ·rw [if_pos rfl] at hx ⊢
   rw [Bool.and_eq_true] at hx
   obtain rfl:=of_decide_eq_true hx.2
   rw [List.append_assoc,bind_some (fitTru.fwd _ rfl trivial),if_pos rfl,bind_some (fitPt.fwd r hx.1 h2)]
   rfl
theorem fitKind (k:Int→Bool) (hk:∀ z,k z=true→okO z=true):Fits (λl=>bindP octP (λz=>bindP (mustP (k z)) λ_=>retP z) l) k (λz=>[octB z]) (λ_=>True):=by
 refine ⟨λ{l r x} h=>?_,λ{x} r hx _=>?_⟩
 ·obtain ⟨z,r1,h1,u9⟩:=bindI h
  obtain ⟨_,r2,h2,u10⟩:=bindI u9
  obtain ⟨hz,rfl⟩:=mustI h2
  cases u10
  obtain ⟨_,rfl⟩:=fitOct.inv h1
  exact ⟨⟨hz,trivial⟩,rfl⟩
 ·show bindP octP _ _=_
  rw [bind_some (fitOct.fwd r (hk x hx) trivial),mustF hx]
  rfl
theorem kind_split {α:Type} (k:Int→Bool) (f:Int→Ps α):bindP octP (λz=>bindP (mustP (k z)) λ_=>f z)=bindP (λl=>bindP octP (λz=>bindP (mustP (k z)) λ_=>retP z) l) f:=by
 funext l
 cases h:octP l with
 | none=>rw [bind_none h,bind_none]; exact bind_none h
 | some u =>
  obtain ⟨z,r⟩:=u
  rw [bind_some h]
  cases hk:k z with
  | false =>
   have e:(λl=>bindP octP (λz=>bindP (mustP (k z)) λ_=>retP z) l) l=none:=by
    show bindP octP _ l=none
    rw [bind_some h,hk]
    rfl
   rw [bind_none e]
   rfl
  | true =>
   have e:(λl=>bindP octP (λz=>bindP (mustP (k z)) λ_=>retP z) l) l=some (z,r):=by
    show bindP octP _ l=_
    rw [bind_some h,hk]
    rfl
   rw [bind_some e]
   rfl
theorem kindO (z:Int) (h:okK z=true):okO z=true:=by
 unfold okK at h; unfold okO
 rw [Bool.and_eq_true,decide_eq_true_eq,decide_eq_true_eq] at h ⊢
 omega
theorem kindO2 (z:Int) (h:okK2 z=true):okO z=true:=by
 unfold okK2 at h; unfold okO
 rw [Bool.and_eq_true,decide_eq_true_eq,decide_eq_true_eq] at h ⊢
 omega
def domTx (x:Byt):Prop:=x.length<18446744073709551616
def rdOU':Ps MOu:=bindP (λl=>bindP octP (λz=>bindP (mustP (okK z)) λ_=>retP z) l) λk=>bindP rdTG λa=>bindP rdAM λb=>bindP (textP 6000) λr=>bindP (textP 6000) λs=>bindP (textP 128) λn=>bindP (textP 256) λc=>retP ⟨k,a,b,r,s,n,c⟩
theorem rdOU_eq:rdOU=rdOU':=kind_split okK _
def domOU (x:MOu):Prop:=True∧domTG x.asset∧domAM x.amount∧domTx x.range∧domTx x.surject∧domTx x.note∧domTx x.script
theorem fitOU1:Fits rdOU' okOU encOU domOU:=by
 refine ⟨λ{l r x} h=>?_,λ{x} r hx hd=>?_⟩
 ·obtain ⟨y1,r1,h1,u11⟩:=bindI h
  obtain ⟨⟨o1,d1⟩,rfl⟩:=(fitKind okK kindO).inv h1
  obtain ⟨y2,r2,h2,u12⟩:=bindI u11
  obtain ⟨⟨o2,d2⟩,rfl⟩:=(fitTG).inv h2
  obtain ⟨y3,r3,h3,u13⟩:=bindI u12
  obtain ⟨⟨o3,d3⟩,rfl⟩:=(fitAM).inv h3
  obtain ⟨y4,r4,h4,u14⟩:=bindI u13
  obtain ⟨⟨o4,d4⟩,rfl⟩:=(fitText 6000).inv h4
  obtain ⟨y5,r5,h5,u15⟩:=bindI u14
  obtain ⟨⟨o5,d5⟩,rfl⟩:=(fitText 6000).inv h5
  obtain ⟨y6,r6,h6,u16⟩:=bindI u15
  obtain ⟨⟨o6,d6⟩,rfl⟩:=(fitText 128).inv h6
  obtain ⟨y7,r7,h7,u17⟩:=bindI u16
  obtain ⟨⟨o7,d7⟩,rfl⟩:=(fitText 256).inv h7
  cases u17
  refine ⟨⟨?_,⟨d1,d2,d3,d4,d5,d6,d7⟩⟩,?_⟩
  ·unfold okOU; simp only [o1,o2,o3,o4,o5,o6,o7,Bool.and_self]; try rfl
  ·unfold encOU; simp only [List.append_assoc]
 ·obtain ⟨y1,y2,y3,y4,y5,y6,y7⟩:=x
  obtain ⟨d1,d2,d3,d4,d5,d6,d7⟩:=hd
  unfold okOU at hx
  simp only [Bool.and_eq_true] at hx
  obtain ⟨o1,o2,o3,o4,o5,o6,o7⟩:=hx
  dsimp only at *
  unfold encOU rdOU'
  simp only [List.append_assoc]
  rw [bind_some ((fitKind okK kindO).fwd _ o1 d1),bind_some ((fitTG).fwd _ o2 d2),bind_some ((fitAM).fwd _ o3 d3),bind_some ((fitText 6000).fwd _ o4 d4),bind_some ((fitText 6000).fwd _ o5 d5),bind_some ((fitText 128).fwd _ o6 d6),bind_some ((fitText 256).fwd _ o7 d7)]
  rfl
theorem fitOU:Fits rdOU okOU encOU domOU:=by rw [rdOU_eq]; exact fitOU1
def domPA (x:MPa):Prop:=True∧(x.keys.length<18446744073709551616∧∀ k∈x.keys,k.length=32)
theorem fitPA:Fits rdPA okPA encPA domPA:=by
 refine ⟨λ{l r x} h=>?_,λ{x} r hx hd=>?_⟩
 ·obtain ⟨y1,r1,h1,u18⟩:=bindI h
  obtain ⟨⟨o1,d1⟩,rfl⟩:=(fitOct).inv h1
  obtain ⟨y2,r2,h2,u19⟩:=bindI u18
  obtain ⟨⟨o2,d2⟩,rfl⟩:=(fitList (fitTake 32) 16).inv h2
  cases u19
  refine ⟨⟨?_,⟨d1,d2⟩⟩,?_⟩
  ·unfold okPA; rw [all_true,Bool.and_true] at o2; simp only [o1,o2,Bool.and_self]; try rfl
  ·unfold encPA; simp only [List.append_assoc]
 ·obtain ⟨y1,y2⟩:=x
  obtain ⟨d1,d2⟩:=hd
  unfold okPA at hx
  simp only [Bool.and_eq_true] at hx
  obtain ⟨o1,o2⟩:=hx
  have o2:(decide (y2.length≤16) && y2.all λ_=>true)=true:=by rw [o2,all_true]; rfl
  dsimp only at *
  unfold encPA rdPA
  simp only [List.append_assoc]
  rw [bind_some ((fitOct).fwd _ o1 d1),bind_some ((fitList (fitTake 32) 16).fwd _ o2 d2)]
  rfl
def domHE (h:MHe):Prop:=h.prev.length=32∧h.height<18446744073709551616∧h.time<18446744073709551616∧h.root.length=32∧h.main.length=32∧domTx h.reward∧domPA h.next
theorem fitHE:Fits rdHE okHE encHE domHE:=by
 refine ⟨λ{l r x} h=>?_,λ{x} r hx hd=>?_⟩
 ·obtain ⟨y1,r1,h1,u24⟩:=bindI h
  obtain ⟨⟨_,d1⟩,rfl⟩:=(fitTake 32).inv h1
  obtain ⟨y2,r2,h2,u25⟩:=bindI u24
  obtain ⟨⟨_,d2⟩,rfl⟩:=(fitNum 8).inv h2
  obtain ⟨y3,r3,h3,u26⟩:=bindI u25
  obtain ⟨⟨_,d3⟩,rfl⟩:=(fitNum 8).inv h3
  obtain ⟨y4,r4,h4,u27⟩:=bindI u26
  obtain ⟨⟨_,d4⟩,rfl⟩:=(fitTake 32).inv h4
  obtain ⟨y5,r5,h5,u28⟩:=bindI u27
  obtain ⟨⟨_,d5⟩,rfl⟩:=(fitTake 32).inv h5
  obtain ⟨y6,r6,h6,u29⟩:=bindI u28
  obtain ⟨⟨o6,d6⟩,rfl⟩:=(fitText 256).inv h6
  obtain ⟨c,r7,h7,u30⟩:=bindI u29
  obtain ⟨_,rfl⟩:=fitTru.inv h7
  obtain ⟨n,r8,h8,u31⟩:=bindI u30
  cases u31
  cases c
  ·rw [if_neg (by decide)] at h8
   cases h8
   refine ⟨⟨?_,d1,d2,d3,d4,d5,d6,trivial,Nat.zero_lt_succ _,λ_ u31=>by cases u31⟩,?_⟩
   ·unfold okHE; dsimp only; rw [o6]; rfl
   ·unfold encHE encT; dsimp only; rw [if_neg (by decide)]; simp only [List.append_assoc,List.nil_append]
  ·rw [if_pos rfl] at h8
   obtain ⟨⟨o8,d8⟩,rfl⟩:=fitPA.inv h8
   refine ⟨⟨?_,d1,d2,d3,d4,d5,d6,d8⟩,?_⟩
   ·unfold okHE; dsimp only; rw [o6,if_pos rfl,o8]; rfl
   ·unfold encHE encT; dsimp only; rw [if_pos rfl]; simp only [List.append_assoc]
 ·obtain ⟨y1,y2,y3,y4,y5,y6,c,n⟩:=x
  obtain ⟨d1,d2,d3,d4,d5,d6,d7⟩:=hd
  unfold okHE at hx
  rw [Bool.and_eq_true] at hx
  obtain ⟨o6,o7⟩:=hx
  unfold encHE rdHE
  dsimp only at *
  show bindP _ _ (_++r)=_
  rw [show y1++(nb 8 y2++(nb 8 y3++(y4++(y5++((varB y6.length++y6)++([trB c]++(if c=true then encPA n else [])))))))++r=y1++(nb 8 y2++(nb 8 y3++(y4++(y5++(encT y6++([trB c]++((if c=true then encPA n else [])++r))))))) by unfold encT; simp only [List.append_assoc]]
  rw [bind_some ((fitTake 32).fwd _ rfl d1),bind_some ((fitNum 8).fwd _ rfl d2),bind_some ((fitNum 8).fwd _ rfl d3),bind_some ((fitTake 32).fwd _ rfl d4),bind_some ((fitTake 32).fwd _ rfl d5),bind_some ((fitText 256).fwd _ o6 d6),bind_some (fitTru.fwd _ rfl trivial)]
  cases c
  ·rw [if_neg (by decide)] at o7
   rw [Bool.and_eq_true] at o7
   obtain ⟨t,ks⟩:=n
   obtain rfl:t=0:=of_decide_eq_true o7.1
   obtain rfl:ks=[]:=List.length_eq_zero_iff.1 (of_decide_eq_true o7.2)
   rfl
  ·rw [if_pos rfl] at o7
   rw [if_pos rfl,if_pos rfl,bind_some (fitPA.fwd _ o7 d7)]
   rfl
end Wr
end
section
namespace Wr
open Go.RowKit Sy
set_option maxRecDepth 100000
set_option maxHeartbeats 4000000
def domIS (i:MIs):Prop:=domAM i.amount∧domTx i.range∧i.tokens<18446744073709551616∧i.entropy.length=32∧i.blind<Cu.K4
theorem nul_am {a:MAmt} (hd:domAM a) (h:nulAM a=true):a=zAM:=by
 obtain ⟨b,v,p⟩:=a
 unfold nulAM at h
 simp only [Bool.and_eq_true,decide_eq_true_eq] at h
 obtain ⟨⟨h1,h2⟩,h3⟩:=h
 obtain rfl:=nul_pt hd.2 h3
 cases b
 ·subst h2; rfl
 ·cases h1
theorem nul_is {i:MIs} (hd:domIS i) (h0:i.kind=0) (h:nulIS i=true):i=zIS:=by
 obtain ⟨k,a,r,t,e,s⟩:=i
 unfold nulIS at h
 simp only [Bool.and_eq_true,decide_eq_true_eq] at h
 obtain ⟨h1,h2,h3,h4,h5⟩:=h
 obtain rfl:=nul_am hd.1 h1
 obtain rfl:r=[]:=List.length_eq_zero_iff.1 h2
 dsimp only at h0
 subst h0 h3 h4 h5
 rfl
theorem dom_zIS:domIS zIS:=⟨⟨(show 0<18446744073709551616 by decide),(show 0<Cu.K4 by decide),(show 0<Cu.K4 by decide)⟩,(show 0<18446744073709551616 by decide),(show 0<18446744073709551616 by decide),rfl,(show 0<Cu.K4 by decide)⟩
theorem ok_zIS:okIS zIS=true:=by decide
theorem fitIS:Fits rdIS okIS encIS domIS:=by
 refine ⟨λ{l r x} h=>?_,λ{x} r hx hd=>?_⟩
 ·obtain ⟨k,r1,h1,u1⟩:=bindI h
  obtain ⟨⟨o1,_⟩,rfl⟩:=fitOct.inv h1
  by_cases hk:k=0
  ·rw [if_pos hk] at u1
   cases u1
   subst hk
   exact ⟨⟨ok_zIS,dom_zIS⟩,by unfold encIS; rfl⟩
  ·rw [if_neg hk] at u1
   obtain ⟨_,r2,h2,u2⟩:=bindI u1
   obtain ⟨hz,rfl⟩:=mustI h2
   unfold fulRd at u2
   obtain ⟨y1,r1,h1,u3⟩:=bindI u2
   obtain ⟨⟨o1,d1⟩,rfl⟩:=fitAM.inv h1
   obtain ⟨y2,r2,h2,u4⟩:=bindI u3
   obtain ⟨⟨o2,d2⟩,rfl⟩:=(fitText 6000).inv h2
   obtain ⟨y3,r3,h3,u5⟩:=bindI u4
   obtain ⟨⟨_,d3⟩,rfl⟩:=(fitNum 8).inv h3
   obtain ⟨y4,r4,h4,u6⟩:=bindI u5
   obtain ⟨⟨_,d4⟩,rfl⟩:=(fitTake 32).inv h4
   obtain ⟨y5,r5,h5,u7⟩:=bindI u6
   obtain ⟨⟨o5,d5⟩,rfl⟩:=fitSC.inv h5
   cases u7
   refine ⟨⟨?_,d1,d2,d3,d4,d5⟩,?_⟩
   ·unfold okIS fulIS; dsimp only; rw [if_neg hk,if_pos (of_decide_eq_true hz),o1,o2,o5]; rfl
   ·unfold encIS bodyIS; dsimp only; rw [if_neg hk]; simp only [List.append_assoc]
 ·by_cases hk:x.kind=0
  ·have hn:nulIS x=true:=by unfold okIS at hx; rwa [if_pos hk] at hx
   obtain rfl:=nul_is hd hk hn
   show bindP octP _ ([octB 0]++[]++r)=_
   rw [List.append_nil,bind_some (fitOct.fwd r (by decide) trivial)]
   rfl
  ·unfold okIS at hx
   rw [if_neg hk] at hx
   by_cases hk2:x.kind=1∨x.kind=2
   ·rw [if_pos hk2] at hx
    obtain ⟨k,y1,y2,y3,y4,y5⟩:=x
    unfold fulIS at hx
    simp only [Bool.and_eq_true] at hx
    obtain ⟨o1,o2,o5⟩:=hx
    obtain ⟨d1,d2,d3,d4,d5⟩:=hd
    dsimp only at *
    unfold encIS bodyIS rdIS
    dsimp only
    rw [if_neg hk]
    simp only [List.append_assoc]
    rw [bind_some (fitOct.fwd _ (by rcases hk2 with rfl | rfl <;> decide) trivial),if_neg hk,mustF (decide_eq_true hk2)]
    unfold fulRd
    rw [bind_some (fitAM.fwd _ o1 d1),bind_some ((fitText 6000).fwd _ o2 d2),bind_some ((fitNum 8).fwd _ rfl d3),bind_some ((fitTake 32).fwd _ rfl d4),bind_some (fitSC.fwd _ o5 d5)]
    rfl
   ·rw [if_neg hk2] at hx; cases hx
def domPG (x:MPg):Prop:=x.header.length=32∧domTx x.tx∧x.place<4294967296∧x.many<4294967296∧(x.path.length<18446744073709551616∧∀ k∈x.path,k.length=32)∧domTx x.script
theorem fitPG:Fits rdPG okPG encPG domPG:=by
 refine ⟨λ{l r x} h=>?_,λ{x} r hx hd=>?_⟩
 ·obtain ⟨y1,r1,h1,u8⟩:=bindI h
  obtain ⟨⟨o1,d1⟩,rfl⟩:=(fitTake 32).inv h1
  obtain ⟨y2,r2,h2,u9⟩:=bindI u8
  obtain ⟨⟨o2,d2⟩,rfl⟩:=(fitText 1024).inv h2
  obtain ⟨y3,r3,h3,u10⟩:=bindI u9
  obtain ⟨⟨o3,d3⟩,rfl⟩:=(fitNum 4).inv h3
  obtain ⟨y4,r4,h4,u11⟩:=bindI u10
  obtain ⟨⟨o4,d4⟩,rfl⟩:=(fitNum 4).inv h4
  obtain ⟨y5,r5,h5,u12⟩:=bindI u11
  obtain ⟨⟨o5,d5⟩,rfl⟩:=(fitList (fitTake 32) 32).inv h5
  obtain ⟨y6,r6,h6,u13⟩:=bindI u12
  obtain ⟨⟨o6,d6⟩,rfl⟩:=(fitText 256).inv h6
  cases u13
  refine ⟨⟨?_,⟨d1,d2,d3,d4,d5,d6⟩⟩,?_⟩
  ·unfold okPG; rw [all_true,Bool.and_true] at o5; simp only [o2,o5,o6,Bool.and_self]; try rfl
  ·unfold encPG; simp only [List.append_assoc]
 ·obtain ⟨y1,y2,y3,y4,y5,y6⟩:=x
  obtain ⟨d1,d2,d3,d4,d5,d6⟩:=hd
  unfold okPG at hx
  simp only [Bool.and_eq_true] at hx
  obtain ⟨o2,o5,o6⟩:=hx
  have o5:(decide (y5.length≤32) && y5.all λ_=>true)=true:=by rw [o5,all_true]; rfl
  dsimp only at *
  unfold encPG rdPG
  simp only [List.append_assoc]
  rw [bind_some ((fitTake 32).fwd _ rfl d1),bind_some ((fitText 1024).fwd _ o2 d2),bind_some ((fitNum 4).fwd _ rfl d3),bind_some ((fitNum 4).fwd _ rfl d4),bind_some ((fitList (fitTake 32) 32).fwd _ o5 d5),bind_some ((fitText 256).fwd _ o6 d6)]
  rfl
theorem nul_pg {p:MPg} (h:nulPG p=true):p=zPG:=by
 obtain ⟨h,t,p,m,l,s⟩:=p
 unfold nulPG at h
 simp only [Bool.and_eq_true,decide_eq_true_eq] at h
 obtain ⟨h1,h2,h3,h4,h5,h6⟩:=h
 obtain rfl:=List.length_eq_zero_iff.1 h2
 obtain rfl:=List.length_eq_zero_iff.1 h5
 obtain rfl:=List.length_eq_zero_iff.1 h6
 subst h1 h3 h4
 rfl
theorem dom_zPG:domPG zPG:=⟨rfl,(show 0<18446744073709551616 by decide),(show 0<4294967296 by decide),(show 0<4294967296 by decide),⟨(show 0<18446744073709551616 by decide),λ_ h=>by cases h⟩,(show 0<18446744073709551616 by decide)⟩
def domIN (i:MIn):Prop:=i.prev.length=32∧i.index<4294967296∧domIS i.issue∧domPG i.peg∧i.wit.length<18446744073709551616∧∀ x∈i.wit,domTx x
theorem fitIN:Fits rdIN okIN encIN domIN:=by
 refine ⟨λ{l r x} h=>?_,λ{x} r hx hd=>?_⟩
 ·obtain ⟨k,r1,h1,u14⟩:=bindI h
  obtain ⟨⟨o0,_⟩,rfl⟩:=fitOct.inv h1
  obtain ⟨_,r2,h2,u15⟩:=bindI u14
  obtain ⟨ok,rfl⟩:=mustI h2
  obtain ⟨y1,r1,h1,u16⟩:=bindI u15
  obtain ⟨⟨_,d1⟩,rfl⟩:=(fitTake 32).inv h1
  obtain ⟨y2,r2,h2,u17⟩:=bindI u16
  obtain ⟨⟨_,d2⟩,rfl⟩:=(fitNum 4).inv h2
  obtain ⟨y3,r3,h3,u18⟩:=bindI u17
  obtain ⟨⟨o3,d3⟩,rfl⟩:=fitIS.inv h3
  obtain ⟨y4,r4,h4,u19⟩:=bindI u18
  obtain ⟨y5,r5,h5,u20⟩:=bindI u19
  obtain ⟨⟨o5,d5⟩,rfl⟩:=(fitList (fitText 256) 16).inv h5
  cases u20
  have o5':okW y5=true:=o5
  by_cases hk:k=2
  ·rw [if_pos hk] at h4
   obtain ⟨⟨o4,d4⟩,rfl⟩:=fitPG.inv h4
   refine ⟨⟨?_,d1,d2,d3,d4,d5⟩,?_⟩
   ·unfold okIN; dsimp only; rw [if_pos hk,ok,o3,o4,o5']; rfl
   ·unfold encIN; dsimp only; rw [if_pos hk]; simp only [List.append_assoc]
  ·rw [if_neg hk] at h4
   cases h4
   refine ⟨⟨?_,d1,d2,d3,dom_zPG,d5⟩,?_⟩
   ·unfold okIN; dsimp only; rw [if_neg hk,ok,o3,o5']; rfl
   ·unfold encIN; dsimp only; rw [if_neg hk]; simp only [List.append_assoc,List.nil_append]
 ·obtain ⟨k,y1,y2,y3,y4,y5⟩:=x
  obtain ⟨d1,d2,d3,d4,d5⟩:=hd
  unfold okIN at hx
  rw [Bool.and_eq_true,Bool.and_eq_true,Bool.and_eq_true] at hx
  obtain ⟨ok,o3,o4,o5⟩:=hx
  dsimp only at *
  unfold encIN rdIN
  dsimp only
  by_cases hk:k=2
  ·rw [if_pos hk] at o4 ⊢
   simp only [List.append_assoc]
   rw [bind_some (fitOct.fwd _ (kindO2 k ok) trivial),mustF ok,bind_some ((fitTake 32).fwd _ rfl d1),bind_some ((fitNum 4).fwd _ rfl d2),bind_some (fitIS.fwd _ o3 d3),if_pos hk,bind_some (fitPG.fwd _ o4 d4),bind_some ((fitList (fitText 256) 16).fwd _ o5 d5)]
   rfl
  ·rw [if_neg hk] at o4 ⊢
   obtain rfl:=nul_pg o4
   simp only [List.append_assoc,List.nil_append]
   rw [bind_some (fitOct.fwd _ (kindO2 k ok) trivial),mustF ok,bind_some ((fitTake 32).fwd _ rfl d1),bind_some ((fitNum 4).fwd _ rfl d2),bind_some (fitIS.fwd _ o3 d3),if_neg hk,bind_some (show retP zPG _=some (zPG,_) from rfl),bind_some ((fitList (fitText 256) 16).fwd _ o5 d5)]
   rfl
def domTR (x:MTr):Prop:=x.after<18446744073709551616∧(x.ins.length<18446744073709551616∧∀ o∈x.ins,domIN o)∧(x.outs.length<18446744073709551616∧∀ o∈x.outs,domOU o)
theorem fitTR:Fits rdTR okTR encTR domTR:=by
 refine ⟨λ{l r x} h=>?_,λ{x} r hx hd=>?_⟩
 ·obtain ⟨y1,r1,h1,u21⟩:=bindI h
  obtain ⟨⟨o1,d1⟩,rfl⟩:=(fitNum 8).inv h1
  obtain ⟨y2,r2,h2,u22⟩:=bindI u21
  obtain ⟨⟨o2,d2⟩,rfl⟩:=(fitList fitIN 16).inv h2
  obtain ⟨y3,r3,h3,u23⟩:=bindI u22
  obtain ⟨⟨o3,d3⟩,rfl⟩:=(fitList fitOU 16).inv h3
  cases u23
  refine ⟨⟨?_,⟨d1,d2,d3⟩⟩,?_⟩
  ·unfold okTR; simp only [o2,o3,Bool.and_self]; try rfl
  ·unfold encTR; simp only [List.append_assoc]
 ·obtain ⟨y1,y2,y3⟩:=x
  obtain ⟨d1,d2,d3⟩:=hd
  unfold okTR at hx
  simp only [Bool.and_eq_true] at hx
  obtain ⟨o2,o3⟩:=hx
  rw [← Bool.and_eq_true] at o2 o3
  dsimp only at *
  unfold encTR rdTR
  simp only [List.append_assoc]
  rw [bind_some ((fitNum 8).fwd _ rfl d1),bind_some ((fitList fitIN 16).fwd _ o2 d2),bind_some ((fitList fitOU 16).fwd _ o3 d3)]
  rfl
def domSG (x:MSg):Prop:=True∧x.sig.length=64
theorem fitSG:Fits rdSG okSG encSG domSG:=by
 refine ⟨λ{l r x} h=>?_,λ{x} r hx hd=>?_⟩
 ·obtain ⟨y1,r1,h1,u24⟩:=bindI h
  obtain ⟨⟨o1,d1⟩,rfl⟩:=(fitOct).inv h1
  obtain ⟨y2,r2,h2,u25⟩:=bindI u24
  obtain ⟨⟨o2,d2⟩,rfl⟩:=(fitTake 64).inv h2
  cases u25
  refine ⟨⟨?_,⟨d1,d2⟩⟩,?_⟩
  ·unfold okSG; simp only [o1,Bool.and_self]; try rfl
  ·unfold encSG; simp only [List.append_assoc]
 ·obtain ⟨y1,y2⟩:=x
  obtain ⟨d1,d2⟩:=hd
  unfold okSG at hx
  have o1:=hx
  dsimp only at *
  unfold encSG rdSG
  simp only [List.append_assoc]
  rw [bind_some ((fitOct).fwd _ o1 d1),bind_some ((fitTake 64).fwd _ rfl d2)]
  rfl
def domBL (x:MBl):Prop:=domHE x.header∧(x.sigs.length<18446744073709551616∧∀ o∈x.sigs,domSG o)∧(x.txs.length<18446744073709551616∧∀ o∈x.txs,domTR o)
theorem fitBL:Fits rdBL okBL encBL domBL:=by
 refine ⟨λ{l r x} h=>?_,λ{x} r hx hd=>?_⟩
 ·obtain ⟨y1,r1,h1,u26⟩:=bindI h
  obtain ⟨⟨o1,d1⟩,rfl⟩:=(fitHE).inv h1
  obtain ⟨y2,r2,h2,u27⟩:=bindI u26
  obtain ⟨⟨o2,d2⟩,rfl⟩:=(fitList fitSG 16).inv h2
  obtain ⟨y3,r3,h3,u28⟩:=bindI u27
  obtain ⟨⟨o3,d3⟩,rfl⟩:=(fitList fitTR 64).inv h3
  cases u28
  refine ⟨⟨?_,⟨d1,d2,d3⟩⟩,?_⟩
  ·unfold okBL; simp only [o1,o2,o3,Bool.and_self]; try rfl
  ·unfold encBL; simp only [List.append_assoc]
 ·obtain ⟨y1,y2,y3⟩:=x
  obtain ⟨d1,d2,d3⟩:=hd
  unfold okBL at hx
  simp only [Bool.and_eq_true] at hx
  obtain ⟨o1,o2,o3⟩:=hx
  rw [← Bool.and_eq_true] at o2 o3
  dsimp only at *
  unfold encBL rdBL
  simp only [List.append_assoc]
  rw [bind_some ((fitHE).fwd _ o1 d1),bind_some ((fitList fitSG 16).fwd _ o2 d2),bind_some ((fitList fitTR 64).fwd _ o3 d3)]
  rfl
end Wr
end
section
namespace Wr
open Go.RowKit Sy
set_option maxRecDepth 100000
set_option maxHeartbeats 4000000
theorem lst_dom {α:Type} {C:Rdr} {k:Nat} {rep:Rdr→List Value→α→Prop} {v:Value} {l:List α} {dom:α→Prop} (h:LstR C k rep v l) (hd:∀ cs x,rep C cs x→dom x):l.length<18446744073709551616∧∀ x∈l,dom x:=by
 obtain ⟨A,n,cp,rfl,h2,h3,h4,h5⟩:=h
 refine ⟨by simp only [maxLen] at h4; omega,λx hx=>?_⟩
 obtain ⟨g,o,_,hq⟩:=h5 (by intro e; rw [e] at hx; cases hx)
 obtain ⟨j,hj⟩:=List.getElem?_of_mem hx
 obtain ⟨cs,_,_,h6,_⟩:=hq j x hj
 exact hd cs x h6
theorem byt_dom {C:Rdr} {v:Value} {b:Byt} (h:BytR C v b):domTx b:=by
 obtain ⟨A,n,cp,rfl,h2,h3,h4,_⟩:=h
 unfold domTx
 simp only [maxLen] at h4; omega
theorem domOU_of {C:Rdr} {cs:List Value} {o:MOu} (h:repOU C cs o):domOU o:=by
 obtain ⟨vr,vs,vn,vc,_,h1,h2,h3,h4,h5,h6⟩:=h
 exact ⟨trivial,h1,h2,byt_dom h3,byt_dom h4,byt_dom h5,byt_dom h6⟩
theorem domPG_of {C:Rdr} {cs:List Value} {p:MPg} (h:repPG C cs p):domPG p:=by
 obtain ⟨vt,vp,vs,_,h1,h2,h3,h4,h5,h6⟩:=h
 exact ⟨h1,byt_dom h2,h3,h4,lst_dom h5 (λ_ _ h=>h.2),byt_dom h6⟩
theorem domIS_of {C:Rdr} {cs:List Value} {i:MIs} (h:repIS C cs i):domIS i:=by
 obtain ⟨vr,_,h1,h2,h3,h4,h5⟩:=h
 exact ⟨h1,byt_dom h2,h3,h4,h5⟩
theorem domIN_of {C:Rdr} {cs:List Value} {i:MIn} (h:repIN C cs i):domIN i:=by
 obtain ⟨ci,cg,vw,_,h1,h2,h3,h4,h5⟩:=h
 exact ⟨h1,h2,domIS_of h3,domPG_of h4,lst_dom h5 (λ_ _ ⟨_,_,h⟩=>byt_dom h)⟩
theorem domTR_of {C:Rdr} {cs:List Value} {t:MTr} (h:repTR C cs t):domTR t:=by
 obtain ⟨vi,vo,_,h1,h2,h3⟩:=h
 exact ⟨h1,lst_dom h2 (λ_ _ h=>domIN_of h),lst_dom h3 (λ_ _ h=>domOU_of h)⟩
theorem domHE_of {C:Rdr} {cs:List Value} {h:MHe} (hx:repHE C cs h):domHE h:=by
 obtain ⟨vr,vk,_,h1,h2,h3,h4,h5,h6,h7⟩:=hx
 exact ⟨h1,h4,h5,h2,h3,byt_dom h6,trivial,lst_dom h7 (λ_ _ h=>h.2)⟩
theorem domBL_of {C:Rdr} {cs:List Value} {b:MBl} (h:repBL C cs b):domBL b:=by
 obtain ⟨ch,vs,vt,_,h1,h2,h3⟩:=h
 exact ⟨domHE_of h1,lst_dom h2 (λ_ _ h=>⟨trivial,h.2⟩),lst_dom h3 (λ_ _ h=>domTR_of h)⟩
theorem sum_lin {α:Type} {wt sz:α→Nat} {a c:Nat} (h:∀ x,wt x≤a*sz x+c) (l:List α):(l.map wt).sum≤a*(l.map sz).sum+c*l.length:=by
 induction l with
 | nil=>exact Nat.zero_le _
 | cons x l ih =>
  have q:=h x
  rw [List.map_cons,List.sum_cons,List.map_cons,List.sum_cons,List.length_cons,Nat.mul_add,Nat.mul_succ]
  omega
theorem linOU (o:MOu):wtOU o≤1*szPU o+105:=by unfold wtOU szPU; omega
theorem linIN (i:MIn):wtIN i≤32*szIN i+300:=by
 have a:=sum_lin (wt:=wtT) (sz:=λx=>x.length) (a:=1) (c:=9) (λx=>by unfold wtT; omega) i.wit
 unfold wtIN wtIS wtPG szIN szIS szPG
 rw [sum_32']
 omega
theorem linTR (t:MTr):wtTR t≤332*szTR t+100:=by
 have a:=sum_lin linIN t.ins
 have b:=sum_lin linOU t.outs
 unfold wtTR szTR
 omega
theorem sum_65 (l:List MSg):(l.map λ_=>65).sum=65*l.length:=by
 induction l with
 | nil=>rfl
 | cons o l ih=>rw [List.map_cons,List.sum_cons,ih,List.length_cons]; omega
theorem linBL (b:MBl):wtBL b≤432*szBL b+300:=by
 have a:=sum_lin linTR b.txs
 unfold wtBL szBL wtHE wtPA
 rw [sum_65,sum_32']
 omega
end Wr
end
section
namespace Wr
open Go.RowKit Sy
set_option maxRecDepth 100000
set_option maxHeartbeats 4000000
def bareI (x:MIn):MIn:={ x with wit:=[] }
def bareT (t:MTr):MTr:={ t with ins:=t.ins.map bareI }
theorem lst_no {α:Type} (C:Rdr) (k:Nat) (rep:Rdr→List Value→α→Prop):LstR C k rep (.slice none 0 0) []:=⟨none,0,0,rfl,rfl,Nat.le_refl _,Nat.zero_le _,λh=>(h rfl).elim⟩
theorem set_last {α:Type} (A:List α) (v u:α) (n:Nat) (hA:A.length=n):(A++[v]).set n u=A++[u]:=by
 rw [List.set_append_right _ _ (by omega),hA,Nat.sub_self]; rfl
theorem wit_rep {C:Rdr} {cs:List Value} {x:MIn} (h:repIN C cs x) (v:Value) (w:List Byt) (hw:LstR C 1 repY v w):repIN C (cs.set 121 v) { x with wit:=w }:=by
 obtain ⟨ci,cg,vw,rfl,h1,h2,h3,h4,h5⟩:=h
 have e:∀ u:Value,[Value.int .i64 x.kind]++((x.prev.map bv++[Value.int .u32 (x.index:Int)])++(ci++(cg++[u])))=([Value.int .i64 x.kind]++((x.prev.map bv++[Value.int .u32 (x.index:Int)])++(ci++cg)))++[u]:=λu=>by simp only [List.append_assoc]
 have hl:([Value.int .i64 x.kind]++((x.prev.map bv++[Value.int .u32 (x.index:Int)])++(ci++cg))).length=121:=by
  simp only [List.length_append,List.length_map,h1,lenIS h3,lenPG h4]; rfl
 exact ⟨ci,cg,v,by rw [e,set_last _ _ _ _ hl]; exact (e v).symm,h1,h2,h3,h4,hw⟩
theorem strip_rep {C:Rdr} {cs:List Value} {x:MIn} (h:repIN C cs x):repIN C (cs.set 121 (.slice none 0 0)) (bareI x):=wit_rep h _ [] (lst_no C 1 repY)
theorem wt_bareI (x:MIn):wtIN (bareI x)≤wtIN x:=by
 unfold wtIN bareI
 simp only [List.map_nil,List.sum_nil]
 omega
theorem sum_le_map {α:Type} {f g:α→Nat} (h:∀ x,f x≤g x) (l:List α):(l.map f).sum≤(l.map g).sum:=by
 induction l with
 | nil=>exact Nat.le_refl 0
 | cons x l ih=>have q:=h x; rw [List.map_cons,List.map_cons,List.sum_cons,List.sum_cons]; omega
theorem wt_bareT (t:MTr):wtTR (bareT t)≤wtTR t:=by
 have q:=sum_le_map wt_bareI t.ins
 have e:((t.ins.map bareI).map wtIN).sum=(t.ins.map λx=>wtIN (bareI x)).sum:=by rw [List.map_map]; rfl
 unfold wtTR bareT
 dsimp only
 rw [e]
 omega
def RowsX {α:Type} (C:Rdr) (e:TypeId) (k:Nat) (rep:Rdr→List Value→α→Prop) (r:Slc) (l:List α):Prop :=
 ∃ xs:List (List Value),r.Is e k xs∧xs.length=l.length∧∀ (j:Nat) (x:α),l[j]? = some x→∃ cs,xs[j]? = some cs∧rep C cs x
theorem RowsX.nil {α:Type} {C:Rdr} {e:TypeId} {k:Nat} {rep:Rdr→List Value→α→Prop}:RowsX C e k rep nilS ([]:List α):=⟨[],Slc.Is.nil _ _,rfl,λj x h=>by cases h⟩
theorem RowsX.lst {α:Type} {C D:Rdr} {e:TypeId} {k:Nat} {rep:Rdr→List Value→α→Prop} (hm:Mono rep) {r:Slc} {l:List α} (hC:Le C D) (hB:Le (rdB r.bl) D) (h:RowsX C e k rep r l):LstR D k rep r.v l:=by
 obtain ⟨xs,h1,h2,h3⟩:=h
 rcases h1.row with ⟨rfl,rfl⟩ | ⟨g,cap,tl,rfl,q1,q2,q3⟩
 ·have:l=[]:=by cases l with | nil=>rfl | cons=>cases h2
  subst this
  exact lst_no _ _ _
 ·rw [h2] at q2
  refine ⟨_,_,_,by rw [h2],rfl,q2,q3,λ_=>⟨g,0,rfl,λj x hx=>?_⟩⟩
  obtain ⟨cs,c1,c2⟩:=h3 j x hx
  have hl:=h1.len _ (List.mem_of_getElem? c1)
  refine ⟨cs,hl,h1.one _ (List.mem_of_getElem? c1),hm hC c2,λi u hu=>hB _ _ _ ⟨e,_,List.mem_singleton.2 rfl,?_⟩⟩
  have q:=flat_at' tl h1.len j cs c1
  have hi:i<k:=by rw [← hl]; exact (List.getElem?_eq_some_iff.1 hu).1
  rw [← q,List.getElem?_take_of_lt hi,List.getElem?_drop] at hu
  rw [Nat.zero_add,List.getElem?_toArray]
  exact hu
theorem flat_set {s i:Nat} {v:Value} (hi:i<s):∀ {xs:List (List Value)},(∀ x∈xs,x.length=s)→∀ {k:Nat} {cs:List Value},xs[k]? = some cs→xs.flatten.set (k*s+i) v=(xs.set k (cs.set i v)).flatten
 | [],_,_,_,h=>by cases h
 | a::xs,hl,0,cs,h=>by
  cases h
  have ha:=hl a (List.mem_cons_self ..)
  rw [List.flatten_cons,Nat.zero_mul,Nat.zero_add,List.set_append_left _ _ (by omega)]; rfl
 | a::xs,hl,k+1,cs,h=>by
  have ha:=hl a (List.mem_cons_self ..)
  have e:(k+1)*s+i - a.length=k*s+i:=by rw [ha,Nat.add_mul]; omega
  rw [List.flatten_cons,List.set_append_right _ _ (by rw [ha,Nat.add_mul]; omega),e,flat_set hi (λx hx=>hl x (List.mem_cons_of_mem _ hx)) (k:=k) (cs:=cs) h]
  rfl
theorem RowsX.set {α:Type} {C:Rdr} {e:TypeId} {s g nn cap:Nat} {cells:Array Value} {rep:Rdr→List Value→α→Prop} {l:List α} (h:RowsX C e s rep ⟨.slice (some ⟨g,0,none⟩) nn cap,[(g,e,cells)]⟩ l) (k i:Nat) (v:Value) (x y:α) (hx:l[k]? = some x) (hi:i<s) (hv:v.oneCell'=true) (hr:∀ cs,rep C cs x→rep C (cs.set i v) y):RowsX C e s rep ⟨.slice (some ⟨g,0,none⟩) nn cap,[(g,e,cells.setIfInBounds (k*s+i) v)]⟩ (l.set k y)∧k*s+i<cells.size:=by
 obtain ⟨xs,h1,h2,h3⟩:=h
 rcases h1.row with ⟨_,e1⟩ | ⟨g',cap',tl,e1,q1,q2,q3⟩
 ·injection e1 with e1 _; cases e1
 ·injection e1 with e1 e2
  injection e1 with e3 e4 e5
  injection e3 with e3
  injection e3 with e3
  subst e3 e5
  have e2:cells=(xs.flatten++tl).toArray:=by injection e2 with e2; injection e2 with _ e2; injection e2
  subst e2
  obtain ⟨cs,c1,c2⟩:=h3 k x hx
  have hk:=(List.getElem?_eq_some_iff.1 c1).1
  have hcl:=h1.len cs (List.mem_of_getElem? c1)
  have hfl:=flat_len' h1.len
  have hlt:k*s+i<xs.flatten.length:=by
   rw [hfl]
   have:(k+1)*s≤xs.length*s:=Nat.mul_le_mul_right s hk
   rw [Nat.add_mul] at this
   omega
  have hl2:∀ z∈xs.set k (cs.set i v),z.length=s:=λz hz=>by
   rcases List.mem_or_eq_of_mem_set hz with hz | rfl
   ·exact h1.len z hz
   ·rw [List.length_set]; exact hcl
  refine ⟨⟨xs.set k (cs.set i v),⟨hl2,λz hz u hu=>?_,.inr ⟨g,cap,tl,?_,by rw [List.length_set]; exact q1,by rw [List.length_set]; exact q2,q3⟩⟩,by rw [List.length_set,List.length_set,h2],λj z hz=>?_⟩,by rw [List.size_toArray,List.length_append]; omega⟩
  ·rcases List.mem_or_eq_of_mem_set hz with hz | rfl
   ·exact h1.one z hz u hu
   ·rcases List.mem_or_eq_of_mem_set hu with hu | rfl
    ·exact h1.one cs (List.mem_of_getElem? c1) u hu
    ·exact hv
  ·rw [e4,List.length_set,List.setIfInBounds_toArray,List.set_append_left _ _ hlt,flat_set hi h1.len c1]
  ·rw [List.getElem?_set] at hz ⊢
   by_cases ej:k=j
   ·subst ej
    rw [if_pos rfl] at hz
    rw [if_pos rfl,if_pos hk]
    rw [if_pos (by omega)] at hz
    injection hz with hz
    subst hz
    exact ⟨_,rfl,hr cs c2⟩
   ·rw [if_neg ej] at hz
    rw [if_neg ej]
    exact h3 j z hz
theorem rows_of {α:Type} {C:Rdr} {k:Nat} {rep:Rdr→List Value→α→Prop} {A:Option Addr} {n cp:Nat} {l:List α} (h:LstR C k rep (.slice A n cp) l):∃ xs:List (List Value),xs.length=l.length∧(∀ (j:Nat) (cs:List Value),xs[j]? = some cs→cs.length=k∧(∀ u∈cs,u.oneCell'=true)∧∃ x,l[j]? = some x∧rep C cs x)∧(xs=[]∨∃ g o,A=some ⟨g,o,none⟩∧XAt C g o xs.flatten):=by
 obtain ⟨A',n',cp',e0,h2,h3,h4,h5⟩:=h
 injection e0 with e1 e2 e3
 subst e1 e2 e3
 by_cases hl:l=[]
 ·subst hl
  exact ⟨[],rfl,λ_ _ h=>(by cases h),.inl rfl⟩
 obtain ⟨g,o,rfl,hq⟩:=h5 hl
 have key:∀ m,m≤l.length→∃ xs:List (List Value),xs.length=m∧(∀ (j:Nat) (cs:List Value),xs[j]? = some cs→cs.length=k∧(∀ u∈cs,u.oneCell'=true)∧∃ x,l[j]? = some x∧rep C cs x)∧XAt C g o xs.flatten:=by
  intro m
  induction m with
  | zero=>intro _; exact ⟨[],rfl,λ_ _ h=>(by cases h),λ_ _ h=>(by cases h)⟩
  | succ m ih =>
   intro hm
   obtain ⟨xs,z1,z2,z3⟩:=ih (by omega)
   obtain ⟨x,hx⟩:∃ x,l[m]? = some x:=⟨_,List.getElem?_eq_getElem (by omega)⟩
   obtain ⟨cs,c1,c2,c3,c4⟩:=hq m x hx
   refine ⟨xs++[cs],by rw [List.length_append,z1]; rfl,λj cz hj=>?_,λi u hu=>?_⟩
   ·rcases Nat.lt_or_ge j xs.length with hlt | hge
    ·rw [List.getElem?_append_left hlt] at hj
     exact z2 j cz hj
    ·rw [List.getElem?_append_right hge] at hj
     cases hjz:j - xs.length with
     | zero =>
      rw [hjz] at hj
      cases hj
      obtain rfl:j=m:=by omega
      exact ⟨c1,c2,x,hx,c3⟩
     | succ i=>rw [hjz] at hj; cases hj
   ·have hall:∀ y∈xs,y.length=k:=λy hy=>by
     obtain ⟨j,hj⟩:=List.getElem?_of_mem hy
     exact (z2 j y hj).1
    have hfl:xs.flatten.length=m*k:=(flat_len' hall).trans (by rw [z1])
    rw [List.flatten_append,List.flatten_cons,List.flatten_nil,List.append_nil] at hu
    rcases Nat.lt_or_ge i xs.flatten.length with hlt | hge
    ·rw [List.getElem?_append_left hlt] at hu
     exact z3 i u hu
    ·rw [List.getElem?_append_right hge] at hu
     have:=c4 _ u hu
     rwa [hfl,Nat.add_assoc,Nat.add_sub_cancel' (by omega)] at this
 obtain ⟨xs,z1,z2,z3⟩:=key l.length (Nat.le_refl _)
 exact ⟨xs,z1,z2,.inr ⟨g,o,rfl,z3⟩⟩
theorem RowsX.of {α:Type} {C:Rdr} {e:TypeId} {k:Nat} {rep:Rdr→List Value→α→Prop} {r:Slc} {l:List α} {xs:List (List Value)} (hr:r.Is e k xs) (h1:xs.length=l.length) (h2:∀ (j:Nat) (cs:List Value),xs[j]? = some cs→cs.length=k∧(∀ u∈cs,u.oneCell'=true)∧∃ x,l[j]? = some x∧rep C cs x):RowsX C e k rep r l:=⟨xs,hr,h1,λj x hx=>by
 have hj:j<xs.length:=by rw [h1]; exact (List.getElem?_eq_some_iff.1 hx).1
 obtain ⟨_,_,y,hy,hr⟩:=h2 j xs[j] (List.getElem?_eq_getElem hj)
 rw [hx] at hy
 cases hy
 exact ⟨_,List.getElem?_eq_getElem hj,hr⟩⟩
theorem From.of {w0:Base} {L:Blocks} {R:Blocks} {g o:Nat} {cs:List Value} (h:XAt (rdC w0 R) g o cs) (hR:∀ b∈R,b∈L):From w0 L (some ⟨g,o,none⟩) cs:=λw hw=>.inr ⟨_,rfl,λj u hj=>by
 rw [addr_off]
 exact (rdC_world hw hR _ _ _ (h j u hj)).2⟩
def ClX {α:Type} (C:Rdr) (e:TypeId) (k:Nat) (rep:Rdr→List Value→α→Prop) (l:List α) (u:Value) (M:Blocks):Prop:=∃ y:Slc,u=y.v∧M=y.bl∧RowsX C e k rep y l
theorem cloneI_any {α:Type} {rep:Rdr→List Value→α→Prop} (w:World) (v:Value) (l:List α) (hv:LstR (rdW w) 122 rep v l) (hn:l.length≤100000000000):Calls Tryz.prog 32 #[v] w (GetsN w (ClX (rdW w) 83 122 rep l)):=by
 have hv0:=hv
 obtain ⟨A,n,cp,rfl,h2,h3,h4,h5⟩:=hv
 obtain ⟨xs,x1,x2,x3⟩:=rows_of hv0
 refine Sy.enter (args:=[.slice A n cp]) Tryz.func32 rfl kL ?_
 refine sC ?_
 refine sP (.slice none 0 0) ?_
 refine sG<|Sy.seq<|sC ?_
 rcases A with _ | a
 ·refine sp rfl<|sP (.bool true) ?_
  refine sG<|sT<|sC ?_
  refine sP (.slice none 0 0) ?_
  refine sG<|Sy.ret<|Sy.then_ret ?_
  have hz:l=[]:=by
   rcases l with _ | ⟨z,l⟩
   ·rfl
   ·obtain ⟨g,o,e,_⟩:=h5 (by simp); cases e
  subst hz
  exact Sy.retGM [] rfl (.inl (show _=some (.slice none 0 0) by kernel_rfl)) (λ_ h=>h) ⟨nilS,rfl,rfl,RowsX.nil⟩
 refine sp rfl<|sP (.bool false) ?_
 refine sG<|sU<|Sy.skip<|Sy.then_<|sC ?_
 refine Sy.make kR 83 #[] (λg=>.slice (some ⟨g,0,none⟩) 0 0) kF (λg1=>?_)
 refine sp rfl ?_
 have hr1:Slc.Is ⟨.slice (some ⟨g1,0,none⟩) 0 0,[(g1,83,#[])]⟩ 83 122 []:=Slc.Is.mk' (cs:=[]) (λ_ h=>by cases h) (λ_ h=>by cases h) rfl rfl rfl (Nat.le_refl _) (by decide)
 have hf:∀ L',From (Base.of w) L' (some a) xs.flatten:=λL'=>by
  rcases x3 with rfl | ⟨g,o,e,hx⟩
  ·exact λ_ _=>.inl rfl
  ·injection e with e
   subst e
   exact From.of (R:=[]) (λi u hu=>rdW_base _ _ _ (hx i u hu)) (λ_ h=>by cases h)
 refine Sy.appendM (pre:=[]) (T:=[]) (r:=⟨.slice (some ⟨g1,0,none⟩) 0 0,[(g1,83,#[])]⟩) kR 23 83 _ _ 122 376 Tryz.underlying23 info_ins rfl rfl rfl rfl (by decide) _ _ rfl hr1 kR (λy hy=>by obtain ⟨j,hj⟩:=List.getElem?_of_mem hy; exact (x2 j y hj).1) (λy hy=>by obtain ⟨j,hj⟩:=List.getElem?_of_mem hy; exact (x2 j y hj).2.1) (some a) n cp (by omega) h3 kR (λr=>hf _) (by simp only [List.length_nil]; omega) (by simp only [List.length_nil,maxLen]; omega) (λs2 hs2=>?_)
 refine sp rfl ?_
 refine sG<|Sy.ret ?_
 exact Sy.retGM s2.bl rfl (.inl (show _=some s2.v by kernel_rfl)) (λ_ h=>by simpa using h) ⟨s2,rfl,rfl,RowsX.of hs2 (by rw [List.nil_append,x1]) (λj cs hj=>x2 j cs (by simpa using hj))⟩
theorem lst_const {α:Type} {C D:Rdr} {k:Nat} {rep:Rdr→List Value→α→Prop} {v:Value} {l:List α} (hl:Le C D) (h:LstR C k rep v l):LstR D k (λ_=>rep C) v l:=by
 obtain ⟨A,n,cp,h1,h2,h3,h4,h5⟩:=h
 refine ⟨A,n,cp,h1,h2,h3,h4,λhne=>?_⟩
 obtain ⟨g,o,e,hq⟩:=h5 hne
 refine ⟨g,o,e,λj x hx=>?_⟩
 obtain ⟨cs,q1,q2,q3,q4⟩:=hq j x hx
 exact ⟨cs,q1,q2,q3,q4.le hl⟩
theorem cloneI_at {w0:Base} {w:World} {L:Blocks} (hw:St w0 w L) (v:Value) (l:List MIn) (hv:LstR (rdW w0.world) 122 repIN v l) (hn:l.length≤100000000000):Calls Tryz.prog 32 #[v] w (GetsN w (ClX (rdW w0.world) 83 122 repIN l)) :=
 cloneI_any w v l (lst_const (λg o u h=>rdC_world (R:=[]) hw (λ_ h=>by cases h) g o u (.inl h)) hv) hn
end Wr
end
section
namespace Ec
variable {n:Nat} [NeZero n] {inv:Fin n→Fin n}
end Ec
end
section
namespace Cu
open Go.RowKit Sy
end Cu
end
section
namespace Cu
open Go.RowKit Sy
set_option maxRecDepth 100000
set_option maxHeartbeats 4000000
end Cu
end
section
namespace Cu
open Go.RowKit Sy
end Cu
end
section
namespace Cu
open Go.RowKit Sy
set_option maxRecDepth 100000
set_option maxHeartbeats 4000000
end Cu
end
section
namespace Cu
open Go.RowKit Sy
set_option maxRecDepth 100000
set_option maxHeartbeats 4000000
end Cu
end
section
namespace Cu
open Go.RowKit Sy
set_option maxRecDepth 100000
set_option maxHeartbeats 4000000
end Cu
end
section
namespace Ec
variable {n:Nat} [NeZero n] {inv:Fin n→Fin n} {α:Type}
end Ec
end
section
namespace Cu
open Go.RowKit Sy
end Cu
end
section
namespace Cu
open Go.RowKit Sy
set_option maxRecDepth 100000
set_option maxHeartbeats 4000000
end Cu
end
section
namespace Cu
open Go.RowKit Sy
end Cu
end
section
namespace Cu
open Go.RowKit Sy
end Cu
end
section
namespace Cu
open Go.RowKit Sy
set_option maxRecDepth 100000
set_option maxHeartbeats 4000000
end Cu
end
section
namespace Cu
open Go.RowKit Sy
theorem texts_blk {w:World} {g:Nat} {t:TypeId} {ts:List Sh.Tx} (hb:Blk w g t (ts.map Sh.Tx.val).toArray) (hok:∀ x∈ts,x.ok w):Sh.Texts w (some ⟨g,0,none⟩) ts:=λ_ =>
 ⟨g,0,rfl,hb.lt,λj y hy=>by
  rw [Nat.zero_add]
  refine ⟨(hb.cell j).trans ?_,hok y (List.mem_of_getElem? hy)⟩
  rw [List.getElem?_toArray,List.getElem?_map,hy]
  rfl⟩
theorem tag_c (w:World) (nm:ByteArray) (hnm:nm.size≤1000000000) (g:Nat) (t:TypeId) (ts:List Sh.Tx) (n ct:Nat) (X:List UInt8) (hX:Sh.cat ts=X) (hn:ts.length=n) (hb:Blk w g t (ts.map Sh.Tx.val).toArray) (hok:∀ x∈ts,x.ok w) (hl:X.length≤1000000000) (hn2:n≤1000000000) (ht:Sh.TabAt w 1) :
  Calls Tryz.prog 33 #[.string nm,.slice (some ⟨g,0,none⟩) n ct] w (Gets w (.agg ((Sh.taggedS nm.data.toList X).map bv).toArray)):=by
 subst hX hn
 exact Sh.tagged_any w nm _ ts ct (texts_blk hb hok) ht hnm hl hn2
end Cu
end
section
namespace Wr
open Go.RowKit Sy
set_option maxRecDepth 100000
set_option maxHeartbeats 4000000
theorem lnL {α:Type} {f:α→Byt} {wt:α→Nat} {l:List α} (h:∀ x∈l,(f x).length≤wt x):(encL f l).length≤9+(l.map wt).sum:=by
 have q:=varB_len l.length
 have key:∀ l:List α,(∀ x∈l,(f x).length≤wt x)→(l.flatMap f).length≤(l.map wt).sum:=λl=>by
  induction l with
  | nil=>exact λ_=>Nat.le_refl 0
  | cons x l ih =>
   intro h
   have a:=h x (List.mem_cons_self ..)
   have b:=ih λy hy=>h y (List.mem_cons_of_mem _ hy)
   rw [List.flatMap_cons,List.length_append,List.map_cons,List.sum_cons]
   omega
 have k:=key l h
 unfold encL
 rw [List.length_append]
 omega
theorem lnT (b:Byt):(encT b).length≤9+b.length:=by
 have q:=varB_len b.length
 unfold encT
 rw [List.length_append]; omega
theorem lnPT (p:MPt):(encPT p).length=33:=Cu.encS_length _
theorem lnTG {t:MTag} (h:domTG t):(encTG t).length≤34:=by
 have q:=lnPT t.pt
 have q2:=h.1
 unfold encTG
 rw [List.length_append]
 split <;> simp only [List.length_cons,List.length_nil] <;> omega
theorem lnAM (t:MAmt):(encAM t).length≤34:=by
 have q:=lnPT t.pt
 have q2:=nb_len 8 t.value
 unfold encAM
 rw [List.length_append]
 split <;> simp only [List.length_cons,List.length_nil] <;> omega
theorem lnOU {o:MOu} (h:domOU o):(encOU o).length≤wtOU o:=by
 have q1:=lnTG h.2.1
 have q2:=lnAM o.amount
 have q3:=lnT o.range
 have q4:=lnT o.surject
 have q5:=lnT o.note
 have q6:=lnT o.script
 unfold encOU wtOU
 simp only [List.length_append,List.length_cons,List.length_nil]
 omega
theorem lnIS {i:MIs} (h:domIS i):(encIS i).length≤wtIS i:=by
 have q1:=lnAM i.amount
 have q2:=lnT i.range
 have q3:=nb_len 8 i.tokens
 have q4:=h.2.2.2.1
 have q5:(encSC i.blind).length=32:=by unfold encSC; exact bytesS_length _
 unfold encIS wtIS bodyIS
 split <;> simp only [List.length_append,List.length_cons,List.length_nil] <;> omega
theorem lnPG {p:MPg} (h:domPG p):(encPG p).length≤wtPG p:=by
 have q1:=h.1
 have q2:=lnT p.tx
 have q3:=nb_len 4 p.place
 have q4:=nb_len 4 p.many
 have q5:=lnL (f:=λd:Byt=>d) (wt:=λ_=>32) (l:=p.path) (λx hx=>Nat.le_of_eq (h.2.2.2.2.1.2 x hx))
 have q6:=lnT p.script
 unfold encPG wtPG
 simp only [List.length_append]
 omega
theorem lnIN {i:MIn} (h:domIN i):(encIN i).length≤wtIN i:=by
 have q1:=h.1
 have q2:=nb_len 4 i.index
 have q3:=lnIS h.2.2.1
 have q4:=lnPG h.2.2.2.1
 have q5:=lnL (f:=encT) (wt:=wtT) (l:=i.wit) (λx _=>lnT x)
 unfold encIN wtIN
 split <;> simp only [List.length_append,List.length_cons,List.length_nil] <;> omega
theorem lnTR {t:MTr} (h:domTR t):(encTR t).length≤wtTR t:=by
 have q1:=nb_len 8 t.after
 have q2:=lnL (f:=encIN) (wt:=wtIN) (l:=t.ins) (λx hx=>lnIN (h.2.1.2 x hx))
 have q3:=lnL (f:=encOU) (wt:=wtOU) (l:=t.outs) (λx hx=>lnOU (h.2.2.2 x hx))
 unfold encTR wtTR
 simp only [List.length_append]
 omega
theorem lnE {ok:Bool} {e:Byt} {n:Nat} (h:e.length≤n):(byE ok e).length≤n:=by
 cases ok
 ·exact Nat.zero_le _
 ·exact h
theorem dom_bareT {t:MTr} (h:domTR t):domTR (bareT t):=by
 refine ⟨h.1,⟨by show (t.ins.map bareI).length<_; rw [List.length_map]; exact h.2.1.1,λo ho=>?_⟩,h.2.2⟩
 obtain ⟨x,hx,rfl⟩:=List.mem_map.1 ho
 have q:=h.2.1.2 x hx
 exact ⟨q.1,q.2.1,q.2.2.1,q.2.2.2.1,by show (0:Nat)<_; decide,λy hy=>by cases hy⟩
abbrev TbS (w:World):Prop:=Sh.TabAt w 1
theorem tbS_st {w0:Base} {w:World} {L:Blocks} (ht:TbS w0.world) (hw:St w0 w L):TbS w:=ht.below hw.below ht.lt
theorem srcW {w:World} {A:Option Addr} {n cp:Nat} {b:Byt} (h:BytR (rdW w) (.slice A n cp) b):Sh.Src w A b:=λhne=>by
 obtain ⟨A',n',cp',e,h2,h3,h4,h5⟩:=h
 injection e with e1 e2 e3
 subst e1
 obtain ⟨g,o,rfl,hq⟩:=h5 hne
 have hlt:0<b.length:=List.length_pos_iff.2 hne
 exact ⟨g,o,rfl,(hq 0 _ (List.getElem?_eq_getElem hlt)).1,λj u hu=>(hq j u hu).2⟩
theorem txOf {w:World} {v:Value} {b:Byt} (h:BytR (rdW w) v b):∃ x:Sh.Tx,x.val=v∧x.l=b∧x.ok w:=by
 have h0:=h
 obtain ⟨A,n,cp,rfl,h2,h3,h4,h5⟩:=h
 exact ⟨⟨A,b,cp⟩,by show Value.slice A b.length cp=_; rw [h2],rfl,srcW h0,by show b.length≤cp; omega,by simpa only [maxLen] using h4⟩
theorem tag_one (w:World) (nm:ByteArray) (hnm:nm.size≤1000000000) (g:Nat) (v:Value) (b:Byt) (h:BytR (rdW w) v b) (hb:Blk w g 29 #[v]) (hl:b.length≤1000000000) (ht:TbS w) :
  Calls Tryz.prog 33 #[.string nm,.slice (some ⟨g,0,none⟩) 1 1] w (Gets w (.agg ((Sh.taggedS nm.data.toList b).map bv).toArray)):=by
 obtain ⟨x,rfl,rfl,hx⟩:=txOf h
 exact Cu.tag_c w nm hnm g 29 [x] 1 1 x.l (by simp [Sh.cat]) rfl hb (λy hy=>by rw [List.mem_singleton.1 hy]; exact hx) hl (by decide) ht
def txNm:ByteArray:=⟨#[116,111,108,108,104,111,117,115,101,47,116,120]⟩
def idTR (t:MTr):Byt:=Sh.taggedS txNm.data.toList (byE (okTR (bareT t)) (encTR (bareT t)))
theorem tagged_len (n m:Byt):(Sh.taggedS n m).length=32:=Sh.sum_length _
def strip (k:Nat) (l:List MIn):List MIn:=(l.take k).map bareI++l.drop k
theorem strip_len (k:Nat) (l:List MIn):(strip k l).length=l.length:=by
 unfold strip; rw [List.length_append,List.length_map,List.length_take,List.length_drop]; omega
theorem strip_at {k:Nat} {l:List MIn} {x:MIn} (h:l[k]? = some x):(strip k l)[k]? = some x:=by
 have hk:=(List.getElem?_eq_some_iff.1 h).1
 unfold strip
 rw [List.getElem?_append_right (by rw [List.length_map,List.length_take]; omega),List.length_map,List.length_take,Nat.min_eq_left (Nat.le_of_lt hk),Nat.sub_self,List.getElem?_drop,Nat.add_zero]
 exact h
theorem strip_set {k:Nat} {l:List MIn} {x:MIn} (h:l[k]? = some x):(strip k l).set k (bareI x)=strip (k+1) l:=by
 have hk:=(List.getElem?_eq_some_iff.1 h).1
 have hx:=(List.getElem?_eq_some_iff.1 h).2
 unfold strip
 have hl:((l.take k).map bareI).length=k:=by rw [List.length_map,List.length_take]; omega
 rw [List.set_append_right _ _ (Nat.le_of_eq hl),hl,Nat.sub_self,List.drop_eq_getElem_cons hk,List.set_cons_zero,List.take_add_one,h,List.map_append,List.append_assoc]
 rfl
theorem strip_all (l:List MIn):strip l.length l=l.map bareI:=by
 unfold strip; rw [List.take_length,List.drop_length,List.append_nil]
theorem RowsX.open {α:Type} {C:Rdr} {e:TypeId} {k:Nat} {rep:Rdr→List Value→α→Prop} {r:Slc} {l:List α} (h:RowsX C e k rep r l) (hne:l≠[]):∃ g cap cells,r=⟨.slice (some ⟨g,0,none⟩) l.length cap,[(g,e,cells)]⟩:=by
 obtain ⟨xs,h1,h2,h3⟩:=h
 rcases h1.row with ⟨rfl,_⟩ | ⟨g,cap,tl,rfl,_⟩
 ·cases l with
  | nil=>exact (hne rfl).elim
  | cons=>cases h2
 ·exact ⟨g,cap,_,by rw [h2]⟩
theorem RowsX.val {α:Type} {C:Rdr} {e:TypeId} {k:Nat} {rep:Rdr→List Value→α→Prop} {r:Slc} {l:List α} (h:RowsX C e k rep r l):∃ A cap,r.v=.slice A l.length cap∧l.length≤cap∧cap≤maxLen:=by
 obtain ⟨xs,h1,h2,h3⟩:=h
 rcases h1.row with ⟨rfl,rfl⟩ | ⟨g,cap,tl,rfl,q1,q2,q3⟩
 ·exact ⟨none,0,by rw [← h2]; rfl,by rw [← h2]; exact Nat.le_refl 0,Nat.zero_le _⟩
 ·exact ⟨_,cap,by rw [h2],by omega,q3⟩
end Wr
end
section
namespace Wr
open Go.RowKit Sy
set_option maxRecDepth 100000
set_option maxHeartbeats 4000000
theorem sum_ge1 {α:Type} {wt:α→Nat} (h:∀ x,1≤wt x) (l:List α):l.length≤(l.map wt).sum:=by
 induction l with
 | nil=>exact Nat.le_refl 0
 | cons x l ih=>have q:=h x; rw [List.length_cons,List.map_cons,List.sum_cons]; omega
theorem txId_any (w:World) (cs:List Value) (x:MTr) (hx:repTR (rdW w) cs x) (hwt:wtTR x≤1000000000) (ht:TbS w):Calls Tryz.prog 10 #[.agg cs.toArray] w (Gets w (.agg ((idTR x).map bv).toArray)):=by
 have hdom:=dom_bareT (domTR_of hx)
 obtain ⟨af,is,os⟩:=x
 obtain ⟨vi,vo,rfl,h1,hI,hO⟩:=hx
 dsimp only at h1 hI hO
 obtain ⟨A,n,cp,rfl,hn1,hn2,hn3,hn4⟩:=id hI
 obtain ⟨A2,n2,cp2,rfl,ho1,ho2,ho3,ho4⟩:=id hO
 have hin:is.length≤100000000000:=by
  have q:=sum_ge1 (wt:=wtIN) (λx=>by unfold wtIN; omega) is
  unfold wtTR at hwt
  dsimp only at hwt
  omega
 show Calls Tryz.prog 10 #[.agg #[.int .u64 (af:Int),.slice A n cp,.slice A2 n2 cp2]] w _
 refine Sy.enter (args:=[.agg #[.int .u64 (af:Int),.slice A n cp,.slice A2 n2 cp2]]) Tryz.func10 rfl kL ?_
 refine sC ?_
 refine sM 26 #[.int .u64 (af:Int),.slice A n cp,.slice A2 n2 cp2] (λg1=>?_)
 refine sM 28 ((List.replicate 32 (0:UInt8)).map bv).toArray (λg2=>?_)
 refine sA ?_
 refine sP (.pointer (some ⟨g1,1,none⟩))<|sS (.slice A n cp) (qc 0 1 rfl rfl Tryz.underlying23) ?_
 refine Sy.callN kR 32 #[.slice A n cp] kF (ClX (rdW w) 83 122 repIN is) (λw' hw=>cloneI_at hw _ is hI hin) (λu M hM=>?_)
 obtain ⟨y,rfl,rfl,hy⟩:=hM
 obtain ⟨Ay,cpy,hyv,hc1,hc2⟩:=hy.val
 rw [hn1] at hyv hc1
 rw [hyv]
 refine sP (.pointer (some ⟨g1,1,none⟩))<|sw 0 rfl #[.int .u64 (af:Int),.slice Ay n cpy,.slice A2 n2 cp2] (Writes.one 1 23 (.slice Ay n cpy) _ _ rfl kR kR kR rfl rfl kL rfl) ?_
 refine sG<|Sy.seq<|sC ?_
 refine sP (.pointer (some ⟨g1,1,none⟩))<|sS (.slice Ay n cpy) (qc 0 1 rfl rfl Tryz.underlying23)<|sP (.int .i64 (n:Int))<|sP (.int .i64 0) ?_
 refine sG<|Sy.block ?_
 have hmx:n<9223372036854775808:=by simp only [maxLen] at hc2; omega
 refine Sy.loopT (Y:=Slc) n (λk z=>[(1,ptr g1),(2,ptr g2),(12,.int .i64 (n:Int)),(13,.int .i64 (k:Int))]) (λk z=>[(g1,26,#[.int .u64 (af:Int),.slice Ay n cpy,.slice A2 n2 cp2]),(g2,28,((List.replicate 32 (0:UInt8)).map bv).toArray)]++(z.bl++[])) (λk z=>RowsX (rdW w) 83 122 repIN z (strip k is)∧z.v=.slice Ay n cpy) y ⟨by have e:strip 0 is=is:=rfl; rw [e]; exact hy,hyv⟩ (all_cons kR (all_cons kR (all_cons kR (all_cons kR all_nil)))) (λ_ h=>by rw [List.append_nil]; exact h) (λk z hk hz=>?_)
 obtain ⟨hz,hzv⟩:=hz
 refine sC ?_
 obtain ⟨b2,hb2⟩:∃ t_:Bool,t_=decide (k<n):=⟨_,rfl⟩
 refine sS (.bool b2) (Quiet.pure (exec_int .lss _ _ _ .i64 _ _ _ rfl rfl rfl (int_lss _ _ _ _ _ (by rw [hb2]; exact decide_eq_decide.2 (by omega))))) ?_
 refine sG<|Sy.seq ?_
 cases b2
 case' true =>
  have l2:k<n:=of_decide_eq_true hb2.symm
  obtain ⟨x,hx⟩:∃ x,is[k]? = some x:=⟨_,List.getElem?_eq_getElem (by omega)⟩
  have hsn:(strip k is).length=n:=by rw [strip_len,hn1]
  obtain ⟨g,cap,cells,rfl⟩:=hz.open (by intro e; rw [e] at hsn; simp at hsn; omega)
  rw [hsn] at hz hzv
  injection hzv with e1 e2 e3
  subst e1 e3
  obtain ⟨hz2,hlt⟩:=hz.set k 121 (.slice none 0 0) x (bareI x) (strip_at hx) (by decide) rfl (λcs h=>strip_rep h)
  rw [strip_set hx] at hz2
  rw [hsn]
  refine sT<|Sy.skip<|Sy.then_<|Sy.seq<|Sy.block<|sC ?_
  refine sp rfl<|sp rfl ?_
  refine sG<|Sy.region ?_
  refine sP (.pointer (some ⟨g1,1,none⟩))<|sS (.slice (some ⟨g,0,none⟩) n cap) (qc 0 1 rfl rfl Tryz.underlying23)<|sp rfl<|sS (.pointer (some ⟨g,0+k*122,none⟩)) (Quiet.pure (exec_at 23 83 _ _ g 0 n cap k 122 .i64 rfl rfl rfl Tryz.underlying23 kF l2))<|sP (.pointer (some ⟨g,0+k*122+121,none⟩))<|sw 2 rfl (cells.setIfInBounds (k*122+121) (.slice none 0 0)) (Writes.one (0+k*122+121) 66 (.slice none 0 0) _ _ rfl kR kR kR rfl rfl (by omega) (by rw [show 0+k*122+121=k*122+121 by omega])) ?_
  refine Sy.nil<|Sy.in_<|Sy.then_<|Sy.region ?_
  refine sS (.int .i64 ((k+1:Nat):Int)) (Quiet.pure (exec_int .add _ _ _ .i64 _ _ _ rfl rfl rfl (int_add _ _ _ _ _ ((wrap_i64 (by omega) (by omega)).trans (by omega)))))<|sp rfl ?_
  refine Sy.nil ?_
  exact Sy.againT ⟨.slice (some ⟨g,0,none⟩) n cap,[(g,83,cells.setIfInBounds (k*122+121) (.slice none 0 0))]⟩ l2 ⟨hz2,rfl⟩ (all_cons kR (all_cons kR (all_cons kR (all_cons kR all_nil)))) (λ_ h=>h)
 have l2:¬ k<n:=of_decide_eq_false hb2.symm
 obtain rfl:k=n:=by omega
 refine sU<|Sy.exit<|Sy.then_exit<|Sy.then_exit<|Sy.in_exit<|Sy.then_ ?_
 have hzb:RowsX (rdW w) 83 122 repIN z (bareT ⟨af,is,os⟩).ins:=by
  show RowsX _ _ _ _ z (is.map bareI)
  rw [← strip_all,hn1]; exact hz
 refine sC ?_
 obtain ⟨d,hd⟩:∃ d,d=idTR ⟨af,is,os⟩:=⟨_,rfl⟩
 have hdl:(d.map bv).length=32:=by rw [List.length_map,hd]; exact tagged_len _ _
 rw [← hd]
 refine sS (.agg #[.int .u64 (af:Int),.slice Ay k cpy,.slice A2 n2 cp2]) (qk 0 0 3 rfl rfl Tryz.underlying26) ?_
 refine Sy.callN kR 7 #[.agg #[.int .u64 (af:Int),.slice Ay k cpy,.slice A2 n2 cp2]] kF (BytE (okTR (bareT ⟨af,is,os⟩)) (encTR (bareT ⟨af,is,os⟩))) (λw' hw=>ex_txx (rep:=repTR) monoTR tx_w w' [.int .u64 (af:Int),.slice Ay k cpy,.slice A2 n2 cp2] (bareT ⟨af,is,os⟩) ⟨_,_,rfl,h1,by
   rw [← hzv]
   exact RowsX.lst (rep:=repIN) (C:=rdW w) (D:=rdW w') monoIN (λg o u h=>rdC_world (R:=[]) hw (λ_ h=>by cases h) g o u (.inl h)) (λg o u h=>rdC_world (R:=z.bl) hw (λb hb=>by simp [hb]) g o u (.inr h)) hzb,LstR.le (rep:=repOU) monoOU (λg o u h=>rdC_world (R:=[]) hw (λ_ h=>by cases h) g o u (.inl h)) hO⟩ rfl (by have:=wt_bareT ⟨af,is,os⟩; omega)) (λu M hM=>?_)
 obtain ⟨u,rfl,hb⟩:=hM.uni
 have hb0:=hb
 obtain ⟨Au,nu,cu,rfl,u2,u3,u4,u5⟩:=hb
 refine sp rfl<|sp rfl<|sp rfl<|sp rfl<|sp rfl ?_
 refine sA ?_
 refine sp rfl ?_
 refine Sy.make kR 29 #[.slice Au nu cu] (λg=>.slice (some ⟨g,0,none⟩) 1 1) kF (λg3=>?_)
 have hlen:=lnTR hdom
 have hlw:=wt_bareT ⟨af,is,os⟩
 refine sS (.agg (d.map bv).toArray) (qg (λw' hw=>by
  rw [hd]
  exact tag_one w' txNm (by decide) g3 (.slice Au nu cu) _ (hb0.le (λg o u h=>rdC_world (R:=M) hw (λb hb=>by simp [hb]) g o u (.inr h))) (hw.blk g3 _ _ (by simp)).2 (lnE (by omega)) (tbS_st ht hw))) ?_
 refine sw 1 rfl (d.map bv).toArray (Writes.row 28 (d.map bv) 32 _ _ rfl kR kR kR hdl (by simp) (λu hu=>by obtain ⟨b,_,rfl⟩:=List.mem_map.1 hu; rfl)) ?_
 refine sG<|Sy.ret ?_
 exact Sy.ret1 rfl (.inl (Sy.Res.cell (ty':=28) g2 1 (d.map bv).toArray _ rfl rfl Tryz.underlying28 rfl (by rw [List.size_toArray,hdl]; kernel_rfl) rfl))
end Wr
end
section
namespace Sc
open Go.RowKit Go.Lib
end Sc
end
section
namespace Sc
open Go.RowKit Go.Lib
end Sc
end
section
namespace Sc
open Go.RowKit Go.Lib
section
variable {P:Program} {ops:Array Oper}
end
end Sc
end
section
namespace Sc
open Go.RowKit Go.Lib
end Sc
end
section
namespace Nt
end Nt
end
section
namespace Cu
open Go.RowKit Sy
set_option maxRecDepth 100000
set_option maxHeartbeats 4000000
end Cu
end
section
namespace Cu
open Go.RowKit Sy
set_option maxRecDepth 100000
set_option maxHeartbeats 4000000
end Cu
end
section
section
open Go.RowKit Go.Lib
end
end
section
namespace Cu
open Go.RowKit Sy
set_option maxRecDepth 100000
set_option maxHeartbeats 4000000
end Cu
end
section
namespace Wr
open Go.RowKit Sy
set_option maxRecDepth 100000
set_option maxHeartbeats 4000000
end Wr
end
section
namespace Wr
open Go.RowKit Sy
set_option maxRecDepth 100000
set_option maxHeartbeats 4000000
theorem joinX {P:Program} {w0:Base} {n:Nat} {Q:Exit→Act→World→Prop} {F:Slots} {L:Blocks} {c:Code} {T:Type} (FF:T→Slots) (LL:T→Blocks) (H:T→Prop) (h:∀ x,H x→X w0 n Q (FF x) (LL x) .normal) (k:(∀ x,H x→X w0 n Q (FF x) (LL x) .normal)→wpC P w0 n Q F L c):wpC P w0 n Q F L c:=k h
theorem leafX {w0:Base} {n:Nat} {Q:Exit→Act→World→Prop} {F:Slots} {L:Blocks} {T:Type} {FF:T→Slots} {LL:T→Blocks} {H:T→Prop} (h:∀ x,H x→X w0 n Q (FF x) (LL x) .normal) (x:T) (hx:H x) (hF:∀ p∈FF x,F.lookup p.1=some p.2) (hL:∀ w,St w0 w L→St w0 w (LL x)):X w0 n Q F L .normal:=λa w ha hw=>h x hx a w (ha.all hF) (hL w hw)
end Wr
end
section
namespace Wr
open Go.RowKit Sy
set_option maxRecDepth 100000
set_option maxHeartbeats 4000000
end Wr
end
section
namespace Wr
open Go.RowKit Sy
set_option maxRecDepth 100000
set_option maxHeartbeats 4000000
end Wr
end
section
namespace Wr
open Go.RowKit Sy
set_option maxRecDepth 100000
set_option maxHeartbeats 4000000
end Wr
end
section
namespace Wr
open Go.RowKit Sy
set_option maxRecDepth 100000
set_option maxHeartbeats 4000000
end Wr
end
section
namespace Wr
open Go.RowKit Sy
set_option maxRecDepth 100000
set_option maxHeartbeats 4000000
def hdNm:ByteArray:=⟨#[116,111,108,108,104,111,117,115,101,47,104,101,97,100,101,114]⟩
theorem lnPA {p:MPa} (h:∀ k∈p.keys,k.length=32):(encPA p).length≤wtPA p:=by
 have q:=lnL (f:=λd:Byt=>d) (wt:=λ_=>32) (l:=p.keys) (λx hx=>Nat.le_of_eq (h x hx))
 unfold encPA wtPA
 rw [List.length_append]
 show 1+_≤_
 omega
theorem lnHE {h:MHe} (hd:domHE h):(encHE h).length≤wtHE h:=by
 obtain ⟨d1,d2,d3,d4,d5,d6,d7⟩:=hd
 have q1:=nb_len 8 h.height
 have q2:=nb_len 8 h.time
 have q3:=varB_len h.reward.length
 have q4:=lnPA (p:=h.next) (λk hk=>d7.2.2 k hk)
 unfold encHE wtHE
 split <;> simp only [List.length_append,List.length_cons,List.length_nil] <;> omega
theorem hdId_any (w:World) (cs:List Value) (x:MHe) (hx:repHE (rdW w) cs x) (hlc:cs.length=102) (hwt:wtHE x≤1000000000) (ht:TbS w):Calls Tryz.prog 14 #[.agg cs.toArray] w (Gets w (.agg ((Sh.taggedS hdNm.data.toList (byE (okHE x) (encHE x))).map bv).toArray)):=by
 obtain ⟨d,hd⟩:∃ d,d=Sh.taggedS hdNm.data.toList (byE (okHE x) (encHE x)):=⟨_,rfl⟩
 have hdl:(d.map bv).length=32:=by rw [List.length_map,hd]; exact tagged_len _ _
 rw [← hd]
 refine Sy.enter (args:=[.agg cs.toArray]) Tryz.func14 rfl kL ?_
 refine sC ?_
 refine sM 34 cs.toArray (λg1=>?_) kR (λw=>run_boxR rfl rfl (by kernel_rfl) hlc w)
 refine sM 28 ((List.replicate 32 (0:UInt8)).map bv).toArray (λg2=>?_)
 refine sA ?_
 have old:∀ {L:Blocks} (w':World),St (Base.of w) w' L→Le (rdW w) (rdW w'):=λw' hw g o u h=>rdC_world (w0:=Base.of w) (R:=[]) hw (λ_ h=>by cases h) g o u (.inl h)
 refine sS (.agg cs.toArray) (Quiet.mid 0 g1 0 102 34 34 cs cs _ _ rfl kR rfl Tryz.underlying34 rfl kR (by rw [List.drop_zero,List.take_of_length_le (by omega)]) (by omega)) ?_
 refine Sy.callN kR 40 #[.agg cs.toArray] kF (BytE (okHE x) (encHE x)) (λw' hw=>ex_hdr (rep:=repHE) monoHE header_w w' cs x (monoHE (old w' hw) hx) hlc (by omega)) (λu M hM=>?_)
 obtain ⟨u,rfl,hb⟩:=hM.uni
 have hb0:=hb
 obtain ⟨Au,nu,cu,rfl,u2,u3,u4,u5⟩:=hb
 refine sp rfl<|sp rfl<|sp rfl<|sp rfl<|sp rfl ?_
 refine sA ?_
 refine sp rfl ?_
 refine Sy.make kR 29 #[.slice Au nu cu] (λg=>.slice (some ⟨g,0,none⟩) 1 1) kF (λg3=>?_)
 have hlen:(encHE x).length≤1000000000:=(Nat.le_trans (lnHE (domHE_of hx)) hwt)
 refine sS (.agg (d.map bv).toArray) (qg (λw' hw=>by
  rw [hd]
  exact tag_one w' hdNm (by decide) g3 (.slice Au nu cu) _ (hb0.le (λg o u h=>rdC_world (R:=M) hw (λb hb=>by simp [hb]) g o u (.inr h))) (hw.blk g3 _ _ (by simp)).2 (lnE hlen) (tbS_st ht hw))) ?_
 refine sw 1 rfl (d.map bv).toArray (Writes.row 28 (d.map bv) 32 _ _ rfl kR kR kR hdl (by simp) (λu hu=>by obtain ⟨b,_,rfl⟩:=List.mem_map.1 hu; rfl)) ?_
 refine sG<|Sy.ret ?_
 exact Sy.ret1 rfl (.inl (Sy.Res.cell (ty':=28) g2 1 (d.map bv).toArray _ rfl rfl Tryz.underlying28 rfl (by rw [List.size_toArray,hdl]; kernel_rfl) rfl))
end Wr
end
section
namespace Sh
open Go.RowKit Sp
def leafNm:ByteArray:=⟨#[116,111,108,108,104,111,117,115,101,47,108,101,97,102]⟩
def nodeNm:ByteArray:=⟨#[116,111,108,108,104,111,117,115,101,47,110,111,100,101]⟩
def noneNm:ByteArray:=⟨#[116,111,108,108,104,111,117,115,101,47,110,111,110,101]⟩
def leafS (b:List UInt8):List UInt8:=taggedS leafNm.data.toList b
def nodeS (l r:List UInt8):List UInt8:=taggedS nodeNm.data.toList (l++r)
def noneS:List UInt8:=taggedS noneNm.data.toList []
theorem nodeS_length (l r:List UInt8):(nodeS l r).length=32:=sum_length _
theorem leafS_length (b:List UInt8):(leafS b).length=32:=sum_length _
theorem noneS_length:noneS.length=32:=sum_length _
def cut (n:Nat):Nat:=2 ^ (Lib.bitLen (n - 1) - 1)
theorem bitLen_pow (k:Nat):∀ (x:Nat),2 ^ k≤x→x<2 ^ (k+1)→k+1≤64→Lib.bitLen x=k+1:=by
 induction k with
 | zero =>
  intro x h1 h2 _
  have:x=1:=by simp at h1 h2; omega
  subst this
  decide
 | succ k ih =>
  intro x h1 h2 h3
  have h0:0<2 ^ k:=Nat.two_pow_pos k
  have p1:2 ^ (k+1)=2*2 ^ k:=by rw [Nat.pow_succ]; omega
  have p2:2 ^ (k+1+1)=2*(2*2 ^ k):=by rw [Nat.pow_succ,p1]; omega
  have h64:x<2 ^ 64:=Nat.lt_of_lt_of_le h2 (Nat.pow_le_pow_right (by omega) h3)
  rw [Lib.bitLen_half x (by omega) h64,ih (x / 2) (by omega) (by omega) (by omega)]
  omega
theorem pow_at (x:Nat) (hx:0<x):∃ k,2 ^ k≤x∧x<2 ^ (k+1):=⟨Nat.log2 x,Nat.log2_self_le (by omega),Nat.lt_log2_self⟩
theorem cut_is (n k:Nat) (h1:2 ^ k<n) (h2:n≤2 ^ (k+1)) (h3:k+1≤64):cut n=2 ^ k:=by
 have h0:0<2 ^ k:=Nat.two_pow_pos k
 unfold cut
 rw [bitLen_pow k (n - 1) (by omega) (by omega) h3,Nat.add_sub_cancel]
theorem cut_spec (n:Nat) (hn:2≤n) (hm:n≤2 ^ 62):0<cut n∧cut n<n∧n≤2*cut n∧∃ k,cut n=2 ^ k∧k≤61:=by
 obtain ⟨k,hk1,hk2⟩:=pow_at (n - 1) (by omega)
 have h0:0<2 ^ k:=Nat.two_pow_pos k
 have p1:2 ^ (k+1)=2*2 ^ k:=by rw [Nat.pow_succ]; omega
 have hk:k≤61:=by
  rcases Nat.lt_or_ge 61 k with h | h
  ·have:2 ^ 62≤2 ^ k:=Nat.pow_le_pow_right (by omega) h
   omega
  ·exact h
 rw [cut_is n k (by omega) (by omega) (by omega)]
 exact ⟨h0,by omega,by omega,k,rfl,hk⟩
def All32 (ds:List (List UInt8)):Prop:=∀ d∈ds,d.length=32
theorem All32.take {ds:List (List UInt8)} (h:All32 ds) (k:Nat):All32 (ds.take k):=λd hd=>h d (List.mem_of_mem_take hd)
theorem All32.drop {ds:List (List UInt8)} (h:All32 ds) (k:Nat):All32 (ds.drop k):=λd hd=>h d (List.mem_of_mem_drop hd)
def rootF:Nat→List (List UInt8)→List UInt8
 | 0,ds=>ds.headD noneS
 | f+1,ds=>if 2≤ds.length then nodeS (rootF f (ds.take (cut ds.length))) (rootF f (ds.drop (cut ds.length))) else ds.headD noneS
def rootS (ds:List (List UInt8)):List UInt8:=rootF ds.length ds
theorem rootF_more:∀ (f g:Nat) (ds:List (List UInt8)),ds.length≤f→ds.length≤g→ds.length≤2 ^ 62→rootF f ds=rootF g ds
 | 0,0,_,_,_,_=>rfl
 | 0,g+1,ds,h,_,_=>by rw [rootF,rootF,if_neg (by omega)]
 | f+1,0,ds,_,h,_=>by rw [rootF,rootF,if_neg (by omega)]
 | f+1,g+1,ds,hf,hg,hm=>by
  rw [rootF,rootF]
  by_cases h2:2≤ds.length
  ·obtain ⟨c0,c1,_⟩:=cut_spec ds.length h2 hm
   rw [if_pos h2,if_pos h2,rootF_more f g (ds.take _) (by rw [List.length_take]; omega) (by rw [List.length_take]; omega) (by rw [List.length_take]; omega),
    rootF_more f g (ds.drop _) (by rw [List.length_drop]; omega) (by rw [List.length_drop]; omega) (by rw [List.length_drop]; omega)]
  ·rw [if_neg h2,if_neg h2]
theorem rootS_two (ds:List (List UInt8)) (h:2≤ds.length) (hm:ds.length≤2 ^ 62):rootS ds=nodeS (rootS (ds.take (cut ds.length))) (rootS (ds.drop (cut ds.length))):=by
 obtain ⟨c0,c1,_⟩:=cut_spec ds.length h hm
 obtain ⟨f,hf⟩:∃ f,ds.length=f+1:=⟨ds.length - 1,by omega⟩
 unfold rootS
 conv=>lhs; rw [hf,rootF,if_pos h]
 rw [rootF_more f _ (ds.take _) (by rw [List.length_take]; omega) (Nat.le_refl _) (by rw [List.length_take]; omega),rootF_more f _ (ds.drop _) (by rw [List.length_drop]; omega) (Nat.le_refl _) (by rw [List.length_drop]; omega)]
theorem rootS_one (d:List UInt8):rootS [d]=d:=by simp [rootS,rootF]
theorem rootF_length:∀ (f:Nat) (ds:List (List UInt8)),All32 ds→(rootF f ds).length=32
 | 0,ds,h=>by
  cases ds with
  | nil=>exact noneS_length
  | cons d r=>exact h d (by simp)
 | f+1,ds,h=>by
  rw [rootF]
  by_cases h2:2≤ds.length
  ·rw [if_pos h2]; exact nodeS_length _ _
  ·rw [if_neg h2]
   cases ds with
   | nil=>exact noneS_length
   | cons d r=>exact h d (by simp)
theorem rootS_length (ds:List (List UInt8)) (h:All32 ds):(rootS ds).length=32:=rootF_length _ ds h
end Sh
end
section
namespace Sh
open Go.Shelf Go.Proofs
def bitsLen_lays_ren:Go.Shelf.Ren:=⟨λ| 125=>201 | 128=>236 | 129=>237 | n=>n,λ| 46=>118 | 3=>3 | 51=>67 | 53=>22 | 4=>4 | 5=>5 | 9=>9 | n=>n,λ| n=>n⟩
theorem bitsLen_lays:Go.Proofs.Lays.n125 Tryz.prog bitsLen_lays_ren:={
 mixed:=by kernel_rfl
 f125:=Tryz.func201.trans (congrArg some (by kernel_rfl))
 f128:=Tryz.func236.trans (congrArg some (by kernel_rfl))
 f129:=Tryz.func237.trans (congrArg some (by kernel_rfl))
 t3:=Tryz.underlying3
 a3:=Tryz.isAgg3
 z3:=Tryz.sizeOf3
 v3:=Tryz.zeroValue3
 t4:=Tryz.underlying4
 a4:=Tryz.isAgg4
 z4:=Tryz.sizeOf4
 v4:=Tryz.zeroValue4
 t5:=Tryz.underlying5
 a5:=Tryz.isAgg5
 z5:=Tryz.sizeOf5
 v5:=Tryz.zeroValue5
 t9:=Tryz.underlying9
 a9:=Tryz.isAgg9
 z9:=Tryz.sizeOf9
 v9:=Tryz.zeroValue9
 t46:=Tryz.underlying118
 a46:=Tryz.isAgg118
 z46:=Tryz.sizeOf118
 v46:=Tryz.zeroValue118
 t51:=Tryz.underlying67
 a51:=Tryz.isAgg67
 z51:=Tryz.sizeOf67
 v51:=Tryz.zeroValue67
 t53:=Tryz.underlying22
 a53:=Tryz.isAgg22
 z53:=Tryz.sizeOf22
 v53:=Tryz.zeroValue22 }
theorem bitsLen_any (x:Int) (w:World) (h0:0≤x) (h1:x≤18446744073709551615) :
  Calls Tryz.prog 201 #[.int .u64 x] w λe w'=>e=.returned (.int .i64 (Lib.bitLen x.toNat))∧w'=w:=Any.bits_Len bitsLen_lays x w h0 h1
end Sh
end
section
namespace Sh
open Go.RowKit Sp
set_option maxHeartbeats 400000 in
theorem split_any (n:Nat) (w:World) (h2:2≤n) (hm:n≤4294967296):Calls Tryz.prog 144 #[.int .i64 n] w λe w'=>e=.returned (.int .i64 (cut n))∧w=w':=by
 have hn1:(2:Int)≤(n:Int):=by omega
 have hn2:(n:Int)≤4294967296:=by omega
 have hb1:Lib.bitLen (n - 1)≤33:=Lib.bitLen_le _ 33 (by omega) (by omega)
 have hb0:1≤Lib.bitLen (n - 1):=by
  rw [Lib.bitLen_half _ (by omega) (by omega)]; omega
 have hx:((n:Int) - 1).toNat=n - 1:=by omega
 obtain ⟨q,hq⟩:∃ q,q=Lib.bitLen (n - 1):=⟨_,rfl⟩
 rw [← hq] at hb1 hb0
 have HQ:=Lib.hid (And.intro hx hq)
 clear hx hq
 go_enter Tryz.func144,Tryz.ntmps144
 go_wp2_with fail
 refine (bitsLen_any ((n:Int) - 1) _ (by omega) (by omega)).mono ?_
 rintro e w1 ⟨rfl,rfl⟩
 rw [HQ.out.1, ← HQ.out.2]
 go_wp2
 have hw:wrap64 ((2:Int) ^ (q - 1))=(cut n:Int):=by
  have h1:(2:Nat) ^ (q - 1)≤2 ^ 32:=Nat.pow_le_pow_right (by omega) (by omega)
  have h3:((2:Int) ^ (q - 1))=((2 ^ (q - 1):Nat):Int):=by simp
  have h4:cut n=2 ^ (q - 1):=by unfold cut; rw [← HQ.out.2]
  rw [h3,h4,IntWalk.wrap64_in _ (by constructor <;> omega)]
 go_ret
 exact ⟨by simp only [Array.getD]; exact congrArg (λz=>Ending.returned (Value.int .i64 z)) hw,rfl⟩
def DSrc (w:World) (A:Option Addr) (ds:List (List UInt8)):Prop:=All32 ds∧(ds≠[]→∃ b o,A=some ⟨b,o,none⟩∧b<w.heap.size∧∀ j d,ds[j]? = some d→w.rangeAt b (o+j*32) (d.map bv))
theorem DSrc.below {w w':World} {A:Option Addr} {ds:List (List UInt8)} (h:DSrc w A ds) (hb:Below w.heap.size w w'):DSrc w' A ds :=
 ⟨h.1,λhne=>by
  obtain ⟨b,o,e,hlt,hc⟩:=h.2 hne
  exact ⟨b,o,e,Nat.lt_of_lt_of_le hlt hb.size,λj d hd i v hi=>(hb.cell (p:=⟨b,o+j*32+i,none⟩) hlt).trans (hc j d hd i v hi)⟩⟩
theorem DSrc.take {w:World} {A:Option Addr} {ds:List (List UInt8)} (h:DSrc w A ds) (k:Nat):DSrc w A (ds.take k) :=
 ⟨h.1.take k,λhne=>by
  obtain ⟨b,o,e,hlt,hc⟩:=h.2 (λe=>hne (by rw [e]; simp))
  exact ⟨b,o,e,hlt,λj d hd=>hc j d (by
   rw [List.getElem?_take] at hd
   split at hd
   ·exact hd
   ·cases hd)⟩⟩
theorem DSrc.drop {w:World} {b o:Nat} {ds:List (List UInt8)} (h:DSrc w (some ⟨b,o,none⟩) ds) (k:Nat):DSrc w (some ⟨b,o+k*32,none⟩) (ds.drop k) :=
 ⟨h.1.drop k,λhne=>by
  obtain ⟨b',o',e,hlt,hc⟩:=h.2 (λe=>hne (by rw [e]; simp))
  injection e with e
  injection e with e1 e2
  subst e1 e2
  exact ⟨b,o+k*32,rfl,hlt,λj d hd=>by
   rw [List.getElem?_drop] at hd
   have:=hc (k+j) d hd
   rwa [Nat.add_mul, ← Nat.add_assoc] at this⟩⟩
set_option maxHeartbeats 1000000 in
set_option maxRecDepth 100000 in
theorem halves_any (w:World) (b o n c:Nat) (h2:2≤n) (hm:n≤4294967296) (hc:n≤c) :
  Calls Tryz.prog 81 #[.slice (some ⟨b,o,none⟩) n c] w λe w'=>e=.returned (.tuple #[.slice (some ⟨b,o,none⟩) (cut n) (cut n),.slice (some ⟨b,o+cut n*32,none⟩) (n - cut n) (n - cut n)])∧Below w.heap.size w w':=by
 obtain ⟨c0,c1,c2,_⟩:=cut_spec n h2 (by omega)
 obtain ⟨k,hk⟩:∃ k,k=cut n:=⟨_,rfl⟩
 rw [← hk] at c0 c1 c2
 rw [← hk]
 have HK:=Lib.hid hk
 clear hk
 have a1:(0:Int)≤(k:Int):=by omega
 have a2:(k:Int)≤(n:Int):=by omega
 have a3:(n:Int)≤(c:Int):=by omega
 have a4:(k:Int)≤(c:Int):=by omega
 have a5:(0:Int)≤(n:Int):=by omega
 go_enter Tryz.func81,Tryz.ntmps81
 go_wp2_with fail
 refine (split_any n _ h2 hm).mono ?_
 rintro e w1 ⟨rfl,rfl⟩
 rw [← HK.out]
 go_wp2
 refine wp_region_G (λ_=>false) (by kernel_rfl) ?_
 refine tk 0 rfl ?_
 try simp only [Act.put,aA,aZ,aS]
 refine tk 1 rfl ?_
 try simp only [Act.put,aA,aZ,aS]
 refine tk 2 rfl ?_
 try simp only [Act.put,aA,aZ,aS]
 refine tk 3 rfl ?_
 try simp only [Act.put,aA,aZ,aS]
 refine tk 4 rfl ?_
 try simp only [Act.put,aA,aZ,aS]
 refine tk 5 rfl ?_
 try simp only [Act.put,aA,aZ,aS]
 refine tk 6 rfl ?_
 try simp only [Act.put,aA,aZ,aS]
 refine tk 7 rfl ?_
 try simp only [Act.put,aA,aZ,aS]
 refine tk 8 rfl ?_
 try simp only [Act.put,aA,aZ,aS]
 refine tk 9 rfl ?_
 try simp only [Act.put,aA,aZ,aS]
 refine tk 10 rfl ?_
 try simp only [Act.put,aA,aZ,aS]
 refine tk 11 rfl ?_
 try simp only [Act.put,aA,aZ,aS]
 refine tk 12 rfl ?_
 try simp only [Act.put,aA,aZ,aS]
 refine wpAnyG_done (by kernel_rfl) (λw5 h5=>?_)
 go_wp2
 go_ret2
 exact ⟨rfl,h5⟩
end Sh
end
section
namespace Sh
open Go.RowKit Sp
theorem Gr.blk {w w':World} (h:Gr w w') {g:Nat} {t:TypeId} {cs:Array Value} (hg:Blk w g t cs):Blk w' g t cs:=Blk.below hg h hg.lt
section
variable {P:Program} {ops:Array Oper} {Q:Exit→Act→World→Prop} {md:Region.Mode} {ex:Nat→Bool}
theorem wpAnyG_store (i:Nat) {oi:Oper} {fuel:Nat} {listed:Array Bool} {a:Act} {w:World} (hi0:ops.toList[i]? = some oi) (hr:Region.ready md ops listed=[i])
  (hw:Region.wanted oi (yielded ops a.tmps)=true) (ty:TypeId) (x y:Operand) (ho:oi.op=.store ty x y) (g:Nat) (cells:Array Value) (hx:a.eval x=.pointer (some ⟨g,0,none⟩)) (hy:a.eval y=.agg cells)
  (t:TypeId) (c:Array Value) (hg:Blk w g t c) (hi:(P.info? ty).map (·.size)=some cells.size) (hold:c.size=cells.size) (h1:cells.all (·.oneCell')=true) (hex:ex i=true)
  (h:∀ w1,Gr w w1→∀ w2,(∀ B,B≤g→Below B w1 w2)→Blk w2 g t cells→wpAnyG P md ops Q ex fuel (listed.setIfInBounds i true) (a.put oi.dst undef) w2) :
  wpAnyG P md ops Q ex (fuel+1) listed a w :=
 wpAnyG_sole i hi0 hr hw (λw1 hw1 K hK=>wp_store_row ty x y ho g cells hx hy t c (Gr.blk hw1 hg) hi hold h1
  (hK _ _ (λe=>by rw [hex] at e; cases e) (h w1 hw1 _ (λB hB=>below_setRow (Below.refl _ _) hB _) ((Gr.blk hw1 hg).setRow cells))))
end
theorem texts_list {W:World} (N:Nat) (hN:W.heap.size=N) (ts:List Tx) (t:TypeId) (cs:Array Value) (hcs:cs=(ts.map Tx.val).toArray) (h:∀ x∈ts,x.ok W):Texts (W.alloc (.cells cs t)) (some ⟨N,0,none⟩) ts:=λ_ =>
 ⟨N,0,rfl,by rw [← hN]; simp,λj y hy=>by
  subst hcs hN
  rw [Nat.zero_add]
  exact ⟨(cell_of_row _ _ j _ t _ (heap_alloc_new W _)).trans (by simp [hy]),(h y (List.mem_of_getElem? hy)).below ((Below.refl _ _).alloc (Nat.le_refl _) _)⟩⟩
end Sh
end
section
namespace Sh
open Go.RowKit Sp
theorem dig_size {l:List UInt8} (h:l.length=32):(l.map bv).toArray.size=32:=by rw [List.size_toArray,List.length_map,h]
theorem dig_info {l:List UInt8} (h:l.length=32):(Tryz.prog.info? 28).map (·.size)=some (l.map bv).toArray.size:=by rw [dig_size h]; kernel_rfl
theorem dig_info' {l:List UInt8} (h:l.length=32):(Tryz.prog.info? 28).map (·.size)=some (l.map bv).length:=by rw [List.length_map,h]; kernel_rfl
theorem dig_one (l:List UInt8):(l.map bv).toArray.all (·.oneCell')=true:=by simp [bv,Value.oneCell']
theorem cat_one (x:Tx):cat [x]=x.l:=by simp [cat]
theorem cat_two (x y:Tx):cat [x,y]=x.l++y.l:=by simp [cat]
theorem below_alloc3 (w:World) (o o' o'':Obj):Below w.heap.size w (((w.alloc o).alloc o').alloc o''):=(below_alloc2 w o o').alloc (by simp; omega) _
theorem blk_new3 (w:World) (o o':Obj) (t:TypeId) (cs:Array Value):Blk (((w.alloc o).alloc o').alloc (.cells cs t)) (w.heap.size+2) t cs:=by
 have h:=Blk.new ((w.alloc o).alloc o') t cs
 have e:((w.alloc o).alloc o').heap.size=w.heap.size+2:=by simp
 rwa [e] at h
theorem Below.gr {w a b:World} (h:Below w.heap.size w a) (g:Gr a b):Below w.heap.size w b:=Below.trans h (Below.mono g (Below.size h))
set_option maxHeartbeats 1000000 in
set_option maxRecDepth 100000 in
theorem node_any (w:World) (l r:List UInt8) (hl:l.length=32) (hr:r.length=32) (ht:TabAt w 1) :
  Calls Tryz.prog 82 #[.agg (l.map bv).toArray,.agg (r.map bv).toArray] w λe w'=>e=.returned (dv (nodeS l r))∧Below w.heap.size w w':=by
 have HC:=Lib.hid ht
 have htl:=ht.lt
 have HL:=Lib.hid (And.intro hl hr)
 have hsl:=slice_all
 clear ht hl hr
 go_enter Tryz.func82,Tryz.ntmps82
 go_wp2
 refine wp_region_G (λj=>j == 4) (by kernel_rfl) ?_
 refine tk 0 rfl ?_
 try simp only [Act.put,aA,aZ,aS]
 refine tk 1 rfl ?_
 try simp only [Act.put,aA,aZ,aS]
 refine wpAnyG_sole 2 rfl (by kernel_rfl) (by rfl) (λw3 h3 K hK=>?_)
 go_simp
 refine hK _ _ (λ_=>gr_alloc _ _) ?_
 clear hK K
 try simp only [Act.put,aA,aZ,aS]
 have hA:Blk w3 w.heap.size 28 (l.map bv).toArray:=Gr.blk h3 (((Blk.new w _ _).alloc _).alloc _)
 have hB:Blk w3 (w.heap.size+1) 28 (r.map bv).toArray:=Gr.blk h3 (Blk.alloc (heap_alloc2_new w _ _) _)
 have hx1:(Tx.mk (some ⟨w.heap.size,0,none⟩) l 32).ok w3:=⟨Src.of_blk hA,by show l.length≤32; rw [HL.out.1]; exact Nat.le_refl _,by show (32:Nat)≤_; omega⟩
 have hx2:(Tx.mk (some ⟨w.heap.size+1,0,none⟩) r 32).ok w3:=⟨Src.of_blk hB,by show r.length≤32; rw [HL.out.2]; exact Nat.le_refl _,by show (32:Nat)≤_; omega⟩
 have hT:=texts_list (W:=w3) _ rfl [Tx.mk (some ⟨w.heap.size,0,none⟩) l 32,Tx.mk (some ⟨w.heap.size+1,0,none⟩) r 32] 29 #[.slice (some ⟨w.heap.size,0,none⟩) 32 32,.slice (some ⟨w.heap.size+1,0,none⟩) 32 32]
  (by simp only [Tx.val,List.map_cons,List.map_nil,HL.out.1,HL.out.2]) (λx hx=>by simp at hx; rcases hx with rfl | rfl <;> assumption)
 have hR:Blk w3 (w.heap.size+2) 28 _:=Gr.blk h3 (blk_new3 w _ _ _ _)
 have hb3:=Below.gr (below_alloc3 w _ _ _) h3
 have HT:=Lib.hid hT
 clear hA hB hx1 hx2 hT
 refine tkw 3 rfl (YieldsG.call (v:=.agg ((nodeS l r).map bv).toArray) (by rfl) 33 _ (λw9=>by go_simp; try (first | with_reducible rfl | rfl)) (λw9 h9=>calls_dv (tagged_any w9 nodeNm _ [Tx.mk (some ⟨w.heap.size,0,none⟩) l 32,Tx.mk (some ⟨w.heap.size+1,0,none⟩) r 32] 2 (HT.out.below h9) (HC.out.below (Below.gr hb3 ((gr_alloc _ _).trans h9)) htl) (by decide) (by rw [cat_two]; simp only [List.length_append,HL.out.1,HL.out.2]; omega) (by simp)) (by rw [cat_two]; rfl))) ?_
 try simp only [Act.put,aA,aZ,aS]
 refine wpAnyG_store 4 rfl (by kernel_rfl) (by rfl) _ _ _ rfl (w.heap.size+2) (((nodeS l r).map bv).toArray) rfl rfl _ _ (hR.alloc _) (dig_info (nodeS_length l r)) (by rw [dig_size (nodeS_length l r)]; rfl) (dig_one _) rfl (λw6 h6 w7 hB7 hL7=>?_)
 try simp only [Act.put]
 refine wpAnyG_done (by kernel_rfl) (λw8 h8=>?_)
 have hfin:=Gr.blk h8 hL7
 have hb9:=(Below.gr hb3 ((gr_alloc _ _).trans h6)).trans ((hB7 _ (by omega)).trans (Below.mono h8 (by have:=hL7.lt; omega)))
 go_wp2
 exact bodyPost_ret (results_cell_row rfl _ _ (w.heap.size+2) 28 _ (0,0) _ rfl hfin Tryz.underlying28 rfl (dig_info (nodeS_length l r))) rfl ⟨rfl,hb9⟩
set_option maxHeartbeats 1000000 in
set_option maxRecDepth 100000 in
theorem leaf_any (w:World) (A:Option Addr) (m:List UInt8) (c:Nat) (hs:Src w A m) (hc:m.length≤c) (hcm:c≤9223372036854775807) (hm:m.length≤1000000000) (ht:TabAt w 1) :
  Calls Tryz.prog 41 #[.slice A m.length c] w λe w'=>e=.returned (dv (leafS m))∧Below w.heap.size w w':=by
 have HC:=Lib.hid ht
 have htl:=ht.lt
 have HT:=Lib.hid (And.intro hs (And.intro hc hcm))
 clear ht hs hc hcm
 go_enter Tryz.func41,Tryz.ntmps41
 go_wp2_with fail
 refine (tagged_any _ leafNm (some ⟨w.heap.size+1,0,none⟩) [Tx.mk A m c] 1 (texts_list (w.heap.size+1) (by simp) [Tx.mk A m c] _ _ rfl (λx hx=>by simp at hx; subst hx; exact ⟨HT.out.1.below ((Below.refl _ _).alloc (Nat.le_refl _) _),HT.out.2⟩)) (HC.out.below (below_alloc2 w _ _) htl) (by decide) (by rw [cat_one]; exact hm) (by simp)).mono ?_
 rintro e w1 ⟨rfl,hb1⟩
 have hr:=Blk.below ((Blk.new w _ _).alloc _) hb1 (by simp; omega)
 have hb2:=(below_alloc2 w _ _).trans (hb1.mono (by simp; omega))
 rw [cat_one,show taggedS leafNm.data.toList (Tx.mk A m c).l=leafS m from rfl]
 clear hb1
 unfold dv
 go_wp2_with (refine wpList_store_row rfl 28 (.tmp 2) (.tmp 5) rfl w.heap.size _ rfl rfl 28 _ hr (dig_info (leafS_length m)) (by rw [dig_size (leafS_length m)]; rfl) (dig_one _) ?_)
 exact bodyPost_ret (results_cell_row rfl _ _ w.heap.size 28 _ (0,0) _ rfl (hr.setRow _) Tryz.underlying28 rfl (dig_info (leafS_length m))) rfl ⟨rfl,below_setRow hb2 (Nat.le_refl _) _⟩
end Sh
end
section
namespace Sh
open Go.RowKit Sp
theorem DSrc.one {w:World} {A:Option Addr} {d:List UInt8} (h:DSrc w A [d]):∃ b o,A=some ⟨b,o,none⟩∧b<w.heap.size∧w.rangeAt b o (d.map bv):=by
 obtain ⟨b,o,e,hlt,hc⟩:=h.2 (by simp)
 exact ⟨b,o,e,hlt,by simpa using hc 0 d rfl⟩
theorem rangeAt_gr {W W':World} {g o:Nat} {cs:List Value} (h:W.rangeAt g o cs) (hb:Gr W W') (hg:g<W.heap.size):W'.rangeAt g o cs:=λj v hj=>(Below.cell (p:=⟨g,o+j,none⟩) hb hg).trans (h j v hj)
theorem DSrc.addr {w:World} {A:Option Addr} {ds:List (List UInt8)} (h:DSrc w A ds) (hn:0<ds.length):∃ b o,A=some ⟨b,o,none⟩∧b<w.heap.size:=by
 obtain ⟨b,o,e,hlt,_⟩:=h.2 (λe=>by rw [e] at hn; cases hn)
 exact ⟨b,o,e,hlt⟩
set_option maxHeartbeats 2000000 in
set_option maxRecDepth 100000 in
theorem root_any (f:Nat):∀ (w:World) (A:Option Addr) (ds:List (List UInt8)) (n c:Nat),n≤f→n=ds.length→n≤1048576→DSrc w A ds→n≤c→c≤9223372036854775807→TabAt w 1 →
  Calls Tryz.prog 42 #[.slice A n c] w λe w'=>e=.returned (dv (rootS ds))∧Below w.heap.size w w':=by
 induction f with
 | zero =>
  intro w A ds n c hf hn hm hs hc hcm ht
  obtain rfl:ds=[]:=List.eq_nil_of_length_eq_zero (by omega)
  obtain rfl:n=0:=hn
  have HC:=Lib.hid ht
  have htl:=ht.lt
  clear ht hs
  go_enter Tryz.func42,Tryz.ntmps42
  go_wp2_with fail
  refine (tagged_any _ noneNm none [] 0 (λh=>absurd rfl h) (HC.out.below ((Below.refl _ _).alloc (Nat.le_refl _) _) htl) (by decide) (by decide) (by decide)).mono ?_
  rintro e w1 ⟨rfl,hb1⟩
  have hr:=Blk.below (Blk.new w 28 _) hb1 (by simp)
  have hb2:=((Below.refl w.heap.size w).alloc (Nat.le_refl _) _).trans (hb1.mono (by simp))
  rw [show taggedS noneNm.data.toList (cat [])=noneS from rfl]
  clear hb1
  unfold dv
  go_wp2_with (refine wpList_store_row rfl 28 (.tmp 2) (.tmp 9) rfl w.heap.size _ rfl rfl 28 _ hr (dig_info noneS_length) (by rw [dig_size noneS_length]; rfl) (dig_one _) ?_)
  exact bodyPost_ret (results_cell_row rfl _ _ w.heap.size 28 _ (0,0) _ rfl (hr.setRow _) Tryz.underlying28 rfl (dig_info noneS_length)) rfl ⟨rfl,below_setRow hb2 (Nat.le_refl _) _⟩
 | succ f ih =>
  intro w A ds n c hf hn hm hs hc hcm ht
  have HC:=Lib.hid ht
  have htl:=ht.lt
  clear ht
  rcases Nat.lt_or_ge n 1 with h0 | h1
  ·exact ih w A ds n c (by omega) hn hm hs hc hcm HC.out
  rcases Nat.lt_or_ge n 2 with h2 | h2
  ·obtain ⟨d,rfl⟩:∃ d,ds=[d]:=by
    cases ds with
    | nil=>simp at hn; omega
    | cons d r=>exact ⟨d,by rw [List.eq_nil_of_length_eq_zero (l:=r) (by simp at hn; omega)]⟩
   obtain rfl:n=1:=by omega
   obtain ⟨b,o,rfl,hlt,hrg⟩:=hs.one
   have hd:d.length=32:=hs.1 d (by simp)
   have hrg0:(w.alloc (.cells zeroDigest 28)).rangeAt b o (d.map bv):=rangeAt_gr hrg (gr_alloc _ _) hlt
   have HR:=Lib.hid hrg0
   have HD:=Lib.hid hd
   clear hs hn hrg hrg0 hd
   go_enter Tryz.func42,Tryz.ntmps42
   go_wp2_with (first
    | (refine wpList_load_mid rfl 28 (.tmp 13) rfl b o rfl (d.map bv) _ HR.out Tryz.underlying28 rfl (dig_info' HD.out) ?_)
    | (refine wpList_store_row rfl 28 (.tmp 2) (.tmp 14) rfl w.heap.size _ rfl rfl 28 _ (Blk.new w _ _) (dig_info HD.out) (by rw [dig_size HD.out]; rfl) (dig_one _) ?_))
   exact bodyPost_ret (results_cell_row rfl _ _ w.heap.size 28 _ (0,0) _ rfl ((Blk.new w _ _).setRow _) Tryz.underlying28 rfl (dig_info HD.out)) rfl ⟨by rw [rootS_one]; rfl,below_setRow ((Below.refl _ _).alloc (Nat.le_refl _) _) (Nat.le_refl _) _⟩
  ·obtain ⟨b,o,rfl,hlt⟩:=hs.addr (by omega)
   obtain ⟨c0,c1,c2,_⟩:=cut_spec n h2 (by omega)
   have hroot:rootS ds=nodeS (rootS (ds.take (cut n))) (rootS (ds.drop (cut n))):=by rw [hn]; exact rootS_two ds (by omega) (by omega)
   have hlk:(ds.take (cut n)).length=cut n:=by rw [List.length_take]; omega
   have hrk:(ds.drop (cut n)).length=n - cut n:=by rw [List.length_drop]; omega
   have hsl:DSrc w (some ⟨b,o,none⟩) (ds.take (cut n)):=hs.take _
   have hsr:DSrc w (some ⟨b,o+cut n*32,none⟩) (ds.drop (cut n)):=hs.drop _
   obtain ⟨L,hL⟩:∃ L,L=ds.take (cut n):=⟨_,rfl⟩
   obtain ⟨R,hR⟩:∃ R,R=ds.drop (cut n):=⟨_,rfl⟩
   rw [← hL] at hroot hlk hsl
   rw [← hR] at hroot hrk hsr
   have xl:(rootS L).length=32:=rootS_length _ hsl.1
   have xr:(rootS R).length=32:=rootS_length _ hsr.1
   obtain ⟨X,hX⟩:∃ X,X=rootS L:=⟨_,rfl⟩
   obtain ⟨Y,hY⟩:∃ Y,Y=rootS R:=⟨_,rfl⟩
   obtain ⟨k,hk⟩:∃ k,k=cut n:=⟨_,rfl⟩
   rw [← hX] at hroot xl
   rw [← hY] at hroot xr
   rw [← hk] at c0 c1 c2 hlk hrk hsr
   rw [hroot]
   have HS:=Lib.hid (And.intro hsl hsr)
   have HX:=Lib.hid (And.intro hX hY)
   have HL:=Lib.hid (And.intro xl xr)
   have HK:=Lib.hid (And.intro hk (And.intro hlk hrk))
   clear hs hn hroot hsl hsr hL hR hX hY xl xr hk hlk hrk
   go_enter Tryz.func42,Tryz.ntmps42
   go_wp2_with fail
   refine (halves_any _ b o n c h2 (by omega) hc).mono ?_
   rintro e w1 ⟨rfl,hb1⟩
   rw [← HK.out.1]
   have hr:=Blk.below (Blk.new w 28 _) hb1 (by simp)
   have hb:=((Below.refl w.heap.size w).alloc (Nat.le_refl _) _).trans (hb1.mono (by simp))
   clear hb1
   go_wp2_with fail
   refine (ih w1 _ L k k (by omega) HK.out.2.1.symm (by omega) (HS.out.1.below hb) (Nat.le_refl _) (by omega) (HC.out.below hb htl)).mono ?_
   rintro e w2 ⟨rfl,hb2⟩
   rw [← HX.out.1]
   have hr:=hr.below hb2 hr.lt
   have hb:=hb.trans (hb2.mono hb.size)
   clear hb2
   unfold dv
   go_wp2_with fail
   refine (ih w2 _ R (n - k) (n - k) (by omega) HK.out.2.2.symm (by omega) (HS.out.2.below hb) (Nat.le_refl _) (by omega) (HC.out.below hb htl)).mono ?_
   rintro e w3 ⟨rfl,hb3⟩
   rw [← HX.out.2]
   have hr:=hr.below hb3 hr.lt
   have hb:=hb.trans (hb3.mono hb.size)
   clear hb3
   unfold dv
   go_wp2_with fail
   refine (node_any w3 X Y HL.out.1 HL.out.2 (HC.out.below hb htl)).mono ?_
   rintro e w4 ⟨rfl,hb4⟩
   have hr:=hr.below hb4 hr.lt
   have hb:=hb.trans (hb4.mono hb.size)
   clear hb4
   unfold dv
   go_wp2_with (refine wpList_store_row rfl 28 (.tmp 2) (.tmp 24) rfl w.heap.size _ rfl rfl 28 _ hr (dig_info (nodeS_length X Y)) (by rw [dig_size (nodeS_length X Y)]; rfl) (dig_one _) ?_)
   exact bodyPost_ret (results_cell_row rfl _ _ w.heap.size 28 _ (0,0) _ rfl (hr.setRow _) Tryz.underlying28 rfl (dig_info (nodeS_length X Y))) rfl ⟨rfl,below_setRow hb (Nat.le_refl _) _⟩
end Sh
end
section
namespace Wr
open Go.RowKit Sy
set_option maxRecDepth 100000
set_option maxHeartbeats 4000000
def leafT (x:MTr):Byt:=Sh.leafS (byE (okTR x) (encTR x))
theorem leafT_len (x:MTr):(leafT x).length=32:=tagged_len _ _
def rootT (l:List MTr):Byt:=Sh.rootS (l.map leafT)
def dgAt (l:List MTr) (j:Nat):Byt:=match l[j]? with | some x=>leafT x | none=>List.replicate 32 0
theorem dgAt_len (l:List MTr) (j:Nat):(dgAt l j).length=32:=by
 unfold dgAt
 cases l[j]? with
 | none=>rfl
 | some x=>exact leafT_len x
theorem dgAt_some {l:List MTr} {j:Nat} {x:MTr} (h:l[j]? = some x):dgAt l j=leafT x:=by unfold dgAt; rw [h]
theorem headD_len (ds:List (List UInt8)) (h:∀ d∈ds,d.length=32):(ds.headD Sh.noneS).length=32:=by
 cases ds with
 | nil=>exact tagged_len _ _
 | cons d ds=>exact h d (List.mem_cons_self ..)
theorem rootF_len:∀ (f:Nat) (ds:List (List UInt8)),(∀ d∈ds,d.length=32)→(Sh.rootF f ds).length=32
 | 0,ds,h=>headD_len ds h
 | f+1,ds,h=>by
  unfold Sh.rootF
  split
  ·exact tagged_len _ _
  ·exact headD_len ds h
theorem rootT_len (l:List MTr):(rootT l).length=32:=rootF_len _ _ (λd hd=>by obtain ⟨x,_,rfl⟩:=List.mem_map.1 hd; exact leafT_len x)
noncomputable def inf_dg:TypeInfo:=(Tryz.prog.info? 28).getD default
theorem info_dg9:Tryz.prog.info? 28=some inf_dg:=by kernel_rfl
theorem leaf_b (w:World) (v:Value) (b:Byt) (h:BytR (rdW w) v b) (hl:b.length≤1000000000) (ht:TbS w):Calls Tryz.prog 41 #[v] w (Gets w (.agg ((Sh.leafS b).map bv).toArray)):=by
 obtain ⟨x,rfl,rfl,hx⟩:=txOf h
 exact Sh.leaf_any w x.A x.l x.c hx.1 hx.2.1 hx.2.2 hl ht
theorem dsrc_of {w:World} {g:Nat} {ds:List (List UInt8)} {cs:List Value} {t:TypeId} (hb:Blk w g t cs.toArray) (hd:∀ d∈ds,d.length=32) (hc:∀ (j:Nat) (d:List UInt8),ds[j]? = some d→(cs.drop (j*32)).take 32=d.map bv):Sh.DSrc w (some ⟨g,0,none⟩) ds :=
 ⟨hd,λ_=>⟨g,0,rfl,hb.lt,λj d hj i v hi=>by
  have e:=hc j d hj
  have hlt:i<32:=by
   have h1:=(List.getElem?_eq_some_iff.1 hi).1
   rw [List.length_map,hd d (List.mem_of_getElem? hj)] at h1
   exact h1
  rw [← e,List.getElem?_take_of_lt hlt,List.getElem?_drop] at hi
  rw [Nat.zero_add,hb.cell,List.getElem?_toArray]
  exact hi⟩⟩
theorem root_tx (w:World) (v:Value) (l:List MTr) (hv:LstR (rdW w) 3 repTR v l) (hl:l.length≤1048576) (hwt:∀ x∈l,wtTR x≤1000000000) (ht:TbS w):Calls Tryz.prog 15 #[v] w (Gets w (.agg ((rootT l).map bv).toArray)):=by
 obtain ⟨A,n,cp,rfl,h2,h3,h4,h5⟩:=hv
 obtain ⟨dR,hdR⟩:∃ d,d=rootT l:=⟨_,rfl⟩
 have hdl:(dR.map bv).length=32:=by rw [List.length_map,hdR]; exact rootT_len l
 rw [← hdR]
 have hmx:cp<9223372036854775808:=by simp only [maxLen] at h4; omega
 refine Sy.enter (args:=[.slice A n cp]) Tryz.func15 rfl kL ?_
 refine sC ?_
 refine sM 28 ((List.replicate 32 (0:UInt8)).map bv).toArray (λg2=>?_)
 refine sA ?_
 refine sp rfl<|sP (.int .i64 (n:Int)) ?_
 refine Sy.make kR 28 (flat (λ_=>(List.replicate 32 (Value.int .u8 0))) n).toArray (λg=>.slice (some ⟨g,0,none⟩) n n) (Makes.slice 79 28 _ (.agg (List.replicate 32 (Value.int .u8 0)).toArray) 32 32 _ _ .i64 .i64 n (List.replicate 32 (Value.int .u8 0)) rfl rfl rfl Tryz.underlying79 info_dg9 kR kR (by decide) kR kR kR (by omega) (by omega)) (λga=>?_)
 refine sp rfl ?_
 refine sG<|Sy.seq<|sC ?_
 refine sp rfl<|sP (.int .i64 (n:Int))<|sP (.int .i64 0) ?_
 refine sG<|Sy.block ?_
 have hA:∀ j,((dgAt l j).map bv).length=32:=λj=>by rw [List.length_map,dgAt_len]
 refine Sy.loopT (Y:=Unit) n (λk _=>[(2,ptr g2),(3,.slice (some ⟨ga,0,none⟩) n n),(11,.slice A n cp),(12,.int .i64 (n:Int)),(13,.int .i64 (k:Int))]) (λk _=>[(g2,28,((List.replicate 32 (0:UInt8)).map bv).toArray),(ga,28,(flat (upto k (λj=>(dgAt l j).map bv) (List.replicate 32 (Value.int .u8 0))) n).toArray)]) (λ_ _=>True) () trivial (all_cons kR (all_cons kR (all_cons kR (all_cons kR (all_cons kR all_nil))))) (λ_ h=>h) (λk _ hk _=>?_)
 refine sC ?_
 obtain ⟨b2,hb2⟩:∃ t_:Bool,t_=decide (k<n):=⟨_,rfl⟩
 refine sS (.bool b2) (Quiet.pure (exec_int .lss _ _ _ .i64 _ _ _ rfl rfl rfl (int_lss _ _ _ _ _ (by rw [hb2]; exact decide_eq_decide.2 (by omega))))) ?_
 refine sG<|Sy.seq ?_
 cases b2
 case' true =>
  have l2:k<n:=of_decide_eq_true hb2.symm
  obtain ⟨x,hx⟩:∃ x,l[k]? = some x:=⟨_,List.getElem?_eq_getElem (by omega)⟩
  have hxw:=hwt x (List.mem_of_getElem? hx)
  obtain ⟨g,o,rfl,hq⟩:=h5 (by intro e; rw [e] at hx; cases hx)
  obtain ⟨c,c1,c2,c3,c4⟩:=hq k x hx
  have hdk:dgAt l k=leafT x:=dgAt_some hx
  have hll:=lnTR (domTR_of c3)
  refine sT<|Sy.skip<|Sy.then_<|Sy.seq<|Sy.block<|sC ?_
  refine sp rfl<|sS (.pointer (some ⟨g,o+k*3,none⟩)) (Quiet.pure (exec_at 36 26 _ _ g o n cp k 3 .i64 rfl rfl rfl Tryz.underlying36 kF l2))<|sS (.agg c.toArray) (rowC (R:=[]) (cs:=c) (λi u hu=>rdW_base _ _ _ (c4 i u hu)) (λ_ h=>by cases h) c1 rfl Tryz.underlying26) ?_
  refine sM 26 #[.int .u64 0,.slice none 0 0,.slice none 0 0] (λg5=>?_)
  refine sp rfl ?_
  refine sw 2 rfl c.toArray (Writes.row 26 c 3 _ _ rfl kR kR kR c1 (by kernel_rfl) c2) ?_
  refine sA ?_
  refine sS (.agg c.toArray) (Quiet.mid 2 g5 0 3 26 26 c c _ _ rfl kR rfl Tryz.underlying26 rfl kR (by rw [List.drop_zero,List.take_of_length_le (by omega)]) (by omega)) ?_
  refine Sy.callN kR 7 #[.agg c.toArray] kF (BytE (okTR x) (encTR x)) (λw' hw=>ex_txx (rep:=repTR) monoTR tx_w w' c x (monoTR (λg o u h=>rdC_world (w0:=Base.of w) (R:=[]) hw (λ_ h=>by cases h) g o u (.inl h)) c3) c1 (by omega)) (λu M hM=>?_)
  obtain ⟨u,rfl,hb⟩:=hM.uni
  refine sp rfl<|sp rfl<|sp rfl<|sp rfl<|sp rfl ?_
  refine sG<|Sy.region ?_
  refine sp rfl<|sp rfl<|sp rfl<|sS (.agg ((dgAt l k).map bv).toArray) (qg (λw' hw=>by
   rw [hdk]
   exact leaf_b w' u _ (hb.le (λg o u h=>rdC_world (R:=M) hw (λb hb=>by simp [hb]) g o u (.inr h))) (lnE (by omega)) (tbS_st ht hw)))<|sS (.pointer (some ⟨ga,0+k*32,none⟩)) (Quiet.pure (exec_at 79 28 _ _ ga 0 n n k 32 .i64 rfl rfl rfl Tryz.underlying79 kF l2)) ?_
  refine sw 1 rfl (flat (upto (k+1) (λj=>(dgAt l j).map bv) (List.replicate 32 (Value.int .u8 0))) n).toArray (Writes.part (0+k*32) 28 ((dgAt l k).map bv) _ _ rfl kR kR (by rw [hA]; kernel_rfl) (by rw [hA,List.size_toArray,flat_len (λj=>by unfold upto; split <;> first | exact hA j | rfl)]; omega) (by rw [List.all_toArray,List.all_eq_true]; intro u hu; obtain ⟨b,_,rfl⟩:=List.mem_map.1 hu; rfl) (upto_set hA rfl rfl l2 (by omega))) ?_
  refine Sy.nil<|Sy.in_<|Sy.then_<|Sy.region ?_
  refine sS (.int .i64 ((k+1:Nat):Int)) (Quiet.pure (exec_int .add _ _ _ .i64 _ _ _ rfl rfl rfl (int_add _ _ _ _ _ ((wrap_i64 (by omega) (by omega)).trans (by omega)))))<|sp rfl ?_
  refine Sy.nil ?_
  exact Sy.againT () l2 trivial (all_cons kR (all_cons kR (all_cons kR (all_cons kR (all_cons kR all_nil))))) (λ_ h=>h.less (by simp))
 have l2:¬ k<n:=of_decide_eq_false hb2.symm
 obtain rfl:k=n:=by omega
 refine sU<|Sy.exit<|Sy.then_exit<|Sy.then_exit<|Sy.in_exit<|Sy.then_<|sC ?_
 refine sp rfl<|sS (.agg (dR.map bv).toArray) (qg (λw' hw=>by
  rw [hdR]
  exact Sh.root_any k w' (some ⟨ga,0,none⟩) (l.map leafT) k k (Nat.le_refl _) (by rw [List.length_map,h2]) (by omega) (dsrc_of (cs:=flat (upto k (λj=>(dgAt l j).map bv) (List.replicate 32 (Value.int .u8 0))) k) (hw.blk ga 28 _ (List.mem_cons_of_mem _ (List.mem_singleton.2 rfl))).2 (λd hd=>by obtain ⟨x,_,rfl⟩:=List.mem_map.1 hd; exact leafT_len x) (λj d hj=>by
   rw [List.getElem?_map] at hj
   cases hx:l[j]? with
   | none=>rw [hx] at hj; cases hj
   | some x =>
    rw [hx] at hj
    cases hj
    have hjk:j<k:=by rw [← h2]; exact (List.getElem?_eq_some_iff.1 hx).1
    rw [flat_at (λj=>by unfold upto; split <;> first | exact hA j | rfl) hjk rfl]
    unfold upto
    rw [if_pos hjk]
    show (dgAt l j).map bv=_
    rw [dgAt_some hx])) (Nat.le_refl _) (by omega) (tbS_st ht hw))) ?_
 refine sw 0 rfl (dR.map bv).toArray (Writes.row 28 (dR.map bv) 32 _ _ rfl kR kR kR hdl (by simp) (λu hu=>by obtain ⟨b,_,rfl⟩:=List.mem_map.1 hu; rfl)) ?_
 refine sG<|Sy.ret ?_
 exact Sy.ret1 rfl (.inl (Sy.Res.cell (ty':=28) g2 0 (dR.map bv).toArray _ rfl rfl Tryz.underlying28 rfl (by rw [List.size_toArray,hdl]; kernel_rfl) rfl))
end Wr
end
section
namespace Wr
open Go.RowKit Sy
set_option maxRecDepth 100000
set_option maxHeartbeats 4000000
def m0:MTx:=⟨1,[⟨2,List.replicate 32 0⟩]⟩
def b49:Byt:=encMT m0
theorem m0_ok:okMT m0=true:=by kernel_rfl
theorem b49_len:b49.length=49:=by kernel_rfl
theorem m0_rd:allP rdMT b49=some m0:=by kernel_rfl
theorem m0_at {w0:Base} {w:World} {L:Blocks} {g:Nat} {t:TypeId} (hw:St w0 w L) (hL:(g,t,(Value.int .u64 2::Z32).toArray)∈L):repMT (rdW w) [.int .u64 1,.slice (some ⟨g,0,none⟩) 1 1] m0:=by
 refine ⟨_,rfl,(show 1<18446744073709551616 by decide),_,_,_,rfl,rfl,Nat.le_refl _,(by decide),λ_=>⟨g,0,rfl,λj x hx=>?_⟩⟩
 cases j with
 | succ j=>cases hx
 | zero =>
  cases hx
  refine ⟨Value.int .u64 2::Z32,rfl,λu hu=>?_,⟨rfl,by decide,rfl⟩,λi u hu=>?_⟩
  ·rcases List.mem_cons.1 hu with rfl | hu
   ·rfl
   ·obtain ⟨y,_,rfl⟩:=List.mem_map.1 hu; rfl
  ·exact rdB_world hw (R:=[(g,t,(Value.int .u64 2::Z32).toArray)]) (λb hb=>by rw [List.mem_singleton.1 hb]; exact hL) _ _ _ ⟨t,_,List.mem_singleton.2 rfl,by rw [Nat.zero_mul,Nat.add_zero,Nat.zero_add,List.getElem?_toArray]; exact hu⟩
theorem alive12 (w:World):Calls Tryz.prog 12 #[] w (Gets w (.bool true)):=by
 refine Sy.enter (args:=[]) Tryz.func12 rfl kL ?_
 refine sC ?_
 refine sP (.bool false) ?_
 refine sA ?_
 refine sP (.agg (Value.int .u64 2::Z32).toArray) ?_
 refine Sy.make kR 58 (Value.int .u64 2::Z32).toArray (λg=>.slice (some ⟨g,0,none⟩) 1 1) (Makes.one 59 58 _ _ 33 _ (Value.int .u64 2::Z32) rfl kR Tryz.underlying59 info_mo rfl rfl rfl (by decide) (by decide)) (λg=>?_)
 refine sP (.agg #[.int .u64 1,.slice (some ⟨g,0,none⟩) 1 1]) ?_
 refine Sy.callN kR 36 #[.agg #[.int .u64 1,.slice (some ⟨g,0,none⟩) 1 1]] kF (BytE (okMT m0) b49) (λw' hw=>ex_mtx (rep:=repMT) (ok:=okMT) (enc:=encMT) (wt:=wtMT) monoMT mainTx_w w' [.int .u64 1,.slice (some ⟨g,0,none⟩) 1 1] m0 (m0_at hw (List.mem_append_right _ (List.mem_singleton.2 rfl))) rfl (by decide)) (λv M1 hM=>?_)
 rcases hM with ⟨_,u,rfl,hN⟩ | ⟨h,_⟩
 case inr=>rw [m0_ok] at h; cases h
 have hN0:=hN.byt
 obtain ⟨A,n,cp,rfl,h2,h3,h4,h5⟩:=hN.byt
 obtain rfl:49=n:=by rw [← h2]; exact b49_len.symm
 obtain ⟨gb,ob,rfl,hq⟩:=h5 (by intro e; have q:=b49_len; rw [e] at q; cases q)
 refine sp rfl<|sp rfl<|sp rfl<|sp rfl<|sp rfl ?_
 refine sA ?_
 refine sp rfl ?_
 refine Sy.callN kR 37 #[.slice (some ⟨gb,ob,none⟩) 49 cp] kF (RdE 2 ([Value.int .u64 0]++[Value.slice none 0 0]) repMT (allP rdMT b49)) (λw' hw=>rdx_mtx (rep:=repMT) (p:=rdMT) monoMT (@oneMT) mainTx_r w' _ b49 (hN0.le (rdB_world hw (λb hb=>List.mem_append_right _ hb))) (by rw [b49_len]; decide)) (λv M2 hM=>?_)
 rcases hM with ⟨x,cs,hx,rfl,hcs,hrep⟩ | ⟨h,_⟩
 case inr=>rw [m0_rd] at h; cases h
 rw [m0_rd] at hx
 obtain rfl:m0=x:=by injection hx
 obtain ⟨v2,rfl,_,A2,n2,c2,rfl,k2,k3,k4,k5⟩:=hrep
 obtain rfl:1=n2:=k2
 obtain ⟨g2,o2,rfl,hq2⟩:=k5 (by intro e; cases e)
 obtain ⟨cs0,d1,d2,⟨rfl,_,_⟩,d3⟩:=hq2 0 _ rfl
 refine sp rfl<|sp rfl<|sp rfl ?_
 refine sM 61 #[.int .u64 0,.slice none 0 0] (λg3=>?_)
 refine Sy.permS List.perm_append_comm ?_
 refine sw 0 rfl #[.int .u64 1,.slice (some ⟨g2,o2,none⟩) 1 c2] (wA rfl)<|sp rfl ?_
 refine sA ?_
 refine sP (.agg zOut.toArray) ?_
 refine Sy.callN kR 38 #[.agg zOut.toArray] kF (BytE false []) (λw' hw=>ex_outz (rep:=repOZ) (ok:=λ_=>false) (enc:=λ_=>[]) (wt:=λ_=>1) monoOZ outz_w w' zOut () rfl rfl (by decide)) (λv M3 hM=>?_)
 rcases hM with ⟨h,_⟩ | ⟨_,rfl,rfl⟩
 case inl=>cases h
 rw [List.append_nil]
 refine sp rfl<|sp rfl<|sp rfl<|sp rfl<|sp rfl ?_
 obtain ⟨X,hX⟩:∃ X,X=[(g,58,(Value.int .u64 2::Z32).toArray)]++M1++M2:=⟨_,rfl⟩
 have i1:∀ b∈M1,b∈(g3,61,#[.int .u64 1,.slice (some ⟨g2,o2,none⟩) 1 c2])::([]++[(g,58,(Value.int .u64 2::Z32).toArray)]++M1++M2):=λb hb=>by simp [hb]
 have i2:∀ b∈M2,b∈(g3,61,#[.int .u64 1,.slice (some ⟨g2,o2,none⟩) 1 c2])::([]++[(g,58,(Value.int .u64 2::Z32).toArray)]++M1++M2):=λb hb=>by simp [hb]
 refine sA ?_
 refine sp rfl<|sP (.bool true)<|sp rfl<|sp rfl<|sP (.int .i64 49)<|sP (.bool true)<|sP (.bool true) ?_
 refine sp rfl<|sp rfl<|sS (.pointer (some ⟨gb,ob+7*1,none⟩)) (Quiet.pure (exec_atO 29 _ _ _ (some ⟨gb,ob,none⟩) gb ob 49 cp 7 1 .i64 rfl rfl rfl rfl Tryz.underlying29 kF (by decide)))<|sS (bv 1) (cellC (w0:=Base.of w) (R:=M1) (g:=gb) (f:=ob+7*1) (v:=bv 1) (.inr (hq 7 1 (by kernel_rfl))) i1 rfl Tryz.underlying5)<|sP (.bool true)<|sP (.bool true) ?_
 refine sp rfl<|sp rfl<|sS (.pointer (some ⟨gb,ob+8*1,none⟩)) (Quiet.pure (exec_atO 29 _ _ _ (some ⟨gb,ob,none⟩) gb ob 49 cp 8 1 .i64 rfl rfl rfl rfl Tryz.underlying29 kF (by decide)))<|sS (bv 1) (cellC (w0:=Base.of w) (R:=M1) (g:=gb) (f:=ob+8*1) (v:=bv 1) (.inr (hq 8 1 (by kernel_rfl))) i1 rfl Tryz.underlying5)<|sP (.bool true)<|sP (.bool true) ?_
 refine sp rfl<|sp rfl<|sP (.bool true)<|sP (.bool true) ?_
 refine sp rfl<|sP (.pointer (some ⟨g3,0,none⟩))<|sS (.int .u64 1) (qc 0 0 rfl rfl Tryz.underlying22)<|sP (.bool true)<|sP (.bool true) ?_
 refine sp rfl<|sP (.pointer (some ⟨g3,1,none⟩))<|sS (.slice (some ⟨g2,o2,none⟩) 1 c2) (qc 0 1 rfl rfl Tryz.underlying59)<|sP (.int .i64 1)<|sP (.bool true)<|sP (.bool true) ?_
 refine sp rfl<|sP (.pointer (some ⟨g3,1,none⟩))<|sS (.slice (some ⟨g2,o2,none⟩) 1 c2) (qc 0 1 rfl rfl Tryz.underlying59)<|sS (.pointer (some ⟨g2,o2+0*33,none⟩)) (Quiet.pure (exec_atO 59 _ _ _ (some ⟨g2,o2,none⟩) g2 o2 1 c2 0 33 .i64 rfl rfl rfl rfl Tryz.underlying59 kF (by decide)))<|sP (.pointer (some ⟨g2,o2+0*33,none⟩))<|sS (.int .u64 2) (cellC (w0:=Base.of w) (R:=M2) (g:=g2) (f:=o2+0*33) (v:=.int .u64 2) (.inr d3.one) i2 rfl Tryz.underlying22)<|sP (.bool true)<|sP (.bool true) ?_
 refine sp rfl<|sp rfl<|sP (.bool true)<|sP (.bool true)<|sp rfl ?_
 refine sG<|Sy.ret ?_
 exact rV (.bool true) rfl
end Wr
end
section
namespace Wr
open Go.RowKit Sy
set_option maxRecDepth 100000
set_option maxHeartbeats 4000000
theorem eql_dgs_same (w:World) (F:Slots) (o:Oper) (x y:Operand) (a:List UInt8) (ha:a.length=32) {yt:TypeId} (ho:o.op=.binOp .eql 28 x y yt) (hx:evF F x=.agg (a.map bv).toArray) (hy:evF F y=.agg (a.map bv).toArray):(execOp (evF F) o).run Tryz.prog w=.ok (.value (.bool true)) w:=by
 have q:=eql_dgs w F o x y a a ha ha ho hx hy
 rwa [decide_eq_true rfl] at q
theorem neq_dgs_same (w:World) (F:Slots) (o:Oper) (x y:Operand) (a:List UInt8) (ha:a.length=32) {yt:TypeId} (ho:o.op=.binOp .neq 28 x y yt) (hx:evF F x=.agg (a.map bv).toArray) (hy:evF F y=.agg (a.map bv).toArray):(execOp (evF F) o).run Tryz.prog w=.ok (.value (.bool false)) w:=by
 have h1:(eqGuard .neq 28 x y (.agg (a.map bv).toArray) (.agg (a.map bv).toArray)).run Tryz.prog w=.ok () w:=by go_simp
 have h2:(binOp .neq 28 (.agg (a.map bv).toArray) (.agg (a.map bv).toArray)).run Tryz.prog w=.ok (.bool false) w:=by
  have h:=run_equalIn_bytes (P:=Tryz.prog) w 9998 28 5 32 Tryz.underlying28 Tryz.underlying5 (λW=>by kernel_rfl) a a ha ha
  rw [run_neq_struct,show (10000:Nat)=9998+2 from rfl,show (Op.equalIn (9998+2) 28 (.agg (a.map bv).toArray) (.agg (a.map bv).toArray)).run Tryz.prog w=_ from h]
  simp
 unfold execOp
 simp only [ho,hx,hy,Sem.run_bind,h1,h2,Result.andThen_ok,Sem.run_pure]
theorem same_true (w:World) (v u:Value) (a:Byt) (hv:BytR (rdW w) v a) (hu:BytR (rdW w) u a):Calls Tryz.prog 9 #[v,u] w (Gets w (.bool true)):=by
 have q:=same_any w v u a a hv hu
 rw [decide_eq_true rfl] at q
 exact q
theorem lnBL {b:MBl} (hd:domBL b):(encBL b).length≤wtBL b:=by
 have q1:=lnHE hd.1
 have q2:=lnL (f:=encSG) (wt:=λ_=>65) (l:=b.sigs) (λx hx=>by
  have:=(hd.2.1.2 x hx).2
  unfold encSG
  rw [List.length_append,this]; show 1+64≤65; decide)
 have q3:=lnL (f:=encTR) (wt:=wtTR) (l:=b.txs) (λx hx=>lnTR (hd.2.2.2 x hx))
 unfold encBL wtBL
 simp only [List.length_append]
 omega
theorem mem_sum {α:Type} (f:α→Nat):∀ {l:List α} {x:α},x∈l→f x≤(l.map f).sum
 | a::l,x,h=>by
  rw [List.map_cons,List.sum_cons]
  rcases List.mem_cons.1 h with rfl | h
  ·omega
  ·have:=mem_sum f h; omega
theorem bl_parts {C:Rdr} {bcs:List Value} {b:MBl} (hb:repBL C bcs b):∃ ch vt,ch.length=102∧repHE C ch b.header∧LstR C 3 repTR vt b.txs∧bcs[103]? = some vt∧(bcs.drop 0).take 102=ch:=by
 obtain ⟨ch,vs,vt,ebc,hH,hS,hT⟩:=hb
 have hlh:=lenHE hH
 refine ⟨ch,vt,hlh,hH,hT,?_,?_⟩
 ·rw [ebc,List.getElem?_append_right (by omega),hlh]; rfl
 ·rw [List.drop_zero,ebc, ← hlh,List.take_left]
theorem law_wireback (w:World) (tcs:List Value) (x:MTr) (hx:repTR (rdW w) tcs x) (hwt:wtTR x≤1000000000) (bcs:List Value) (b:MBl) (hb:repBL (rdW w) bcs b) (hwb:wtBL b≤1000000000) (hnb:b.txs.length≤1048576) (ht:TbS w):Calls Tryz.prog 3 #[.agg tcs.toArray,.agg bcs.toArray] w (Gets w (.bool true)):=by
 have hx0:=hx
 have hlb:=lenBL hb
 have hdx:=domTR_of hx
 have hdb:=domBL_of hb
 have hlx:=lnTR hdx
 have hly:=lnBL hdb
 obtain ⟨ch,vt,hlh,hH,hT,hTxs,hHd⟩:=bl_parts hb
 have hwh:wtHE b.header≤1000000000:=by unfold wtBL at hwb; omega
 have hwx:∀ y∈b.txs,wtTR y≤1000000000:=λy hy=>by
  have q:=mem_sum wtTR hy
  unfold wtBL at hwb
  omega
 obtain ⟨af,is,os⟩:=x
 obtain ⟨vi,vo,rfl,h1,hI,hO⟩:=hx
 dsimp only at h1 hI hO
 obtain ⟨A,n,cp,rfl,hn1,hn2,hn3,hn4⟩:=id hI
 obtain ⟨A2,n2,cp2,rfl,ho1,ho2,ho3,ho4⟩:=id hO
 have hx0:repTR (rdW w) [.int .u64 (af:Int),.slice A n cp,.slice A2 n2 cp2] ⟨af,is,os⟩:=hx0
 obtain ⟨x,hxe⟩:∃ x:MTr,x=⟨af,is,os⟩:=⟨_,rfl⟩
 rw [← hxe] at hx0 hdx hlx hwt
 have hxi:x.ins=is:=by rw [hxe]
 have hxo:x.outs=os:=by rw [hxe]
 have hxa:x.after=af:=by rw [hxe]
 have old:∀ {L:Blocks} (w':World),St (Base.of w) w' L→Le (rdW w) (rdW w'):=λw' hw g o u h=>rdC_world (w0:=Base.of w) (R:=[]) hw (λ_ h=>by cases h) g o u (.inl h)
 show Calls Tryz.prog 3 #[.agg #[.int .u64 (af:Int),.slice A n cp,.slice A2 n2 cp2],.agg bcs.toArray] w _
 refine Sy.enter (args:=[.agg #[.int .u64 (af:Int),.slice A n cp,.slice A2 n2 cp2],.agg bcs.toArray]) Tryz.func3 rfl kL ?_
 refine sC ?_
 refine sM 26 #[.int .u64 (af:Int),.slice A n cp,.slice A2 n2 cp2] (λg2=>?_)
 refine sM 38 bcs.toArray (λg3=>?_) kR (λw=>run_boxR rfl rfl (by kernel_rfl) hlb w)
 refine sP (.bool false) ?_
 refine sA ?_
 refine sS (.agg #[.int .u64 (af:Int),.slice A n cp,.slice A2 n2 cp2]) (qk 0 0 3 rfl rfl Tryz.underlying26) ?_
 refine Sy.callN kR 7 #[.agg #[.int .u64 (af:Int),.slice A n cp,.slice A2 n2 cp2]] kF (BytE (okTR x) (encTR x)) (λw' hw=>ex_txx (rep:=repTR) monoTR tx_w w' [.int .u64 (af:Int),.slice A n cp,.slice A2 n2 cp2] x (monoTR (old w' hw) hx0) rfl (by omega)) (λu M1 hM=>?_)
 obtain ⟨u1,rfl,k1⟩:=hM.uni
 obtain ⟨ok,hok⟩:∃ o,o=okTR x:=⟨_,rfl⟩
 rw [← hok] at k1 ⊢
 obtain ⟨d1,hd1⟩:∃ d,d=idTR x:=⟨_,rfl⟩
 have l1:d1.length=32:=by rw [hd1]; exact tagged_len _ _
 refine sp rfl<|sp rfl<|sp rfl<|sp rfl<|sp rfl ?_
 refine sG<|Sy.seq ?_
 refine joinX (T:=Blocks) (λ_=>[(2,ptr g2),(3,ptr g3)]) (λV=>[(g2,26,#[.int .u64 (af:Int),.slice A n cp,.slice A2 n2 cp2]),(g3,38,bcs.toArray)]++V) (λ_=>True) (λV _=>?_) (λK=>?_)
 case refine_2 =>
  refine sC ?_
  cases ok
  ·refine sp rfl<|sP (.bool false) ?_
   refine sG<|sU<|Sy.skip ?_
   exact leafX K M1 trivial (all_cons kR (all_cons kR all_nil)) (λ_ h=>by simpa using h)
  have hback:allP rdTR (encTR x)=some x:=fitTR.back hok.symm hdx
  have k1:BytR (rdB M1) u1 (encTR x):=k1
  refine sp rfl<|sP (.bool true) ?_
  refine sG<|sT<|sC ?_
  refine sp rfl ?_
  refine Sy.callN kR 8 #[u1] kF (RdE 3 ([Value.int .u64 0]++([Value.slice none 0 0]++([Value.slice none 0 0]))) repTR (allP rdTR (encTR x))) (λw' hw=>rdx_txx (rep:=repTR) (p:=rdTR) monoTR (@oneTR) tx_r w' u1 (encTR x) (k1.le (rdB_world hw (λb hb=>by simp [hb]))) (by omega)) (λu M2 hM=>?_)
  rw [hback] at hM
  rcases hM with ⟨x',cs',e,rfl,l',r'⟩ | ⟨e,_⟩
  case inr=>cases e
  cases e
  have r0:=r'
  obtain ⟨vi',vo',ecs,h1',⟨A',n',cp',evi,hn1',hn2',hn3',hn4'⟩,⟨B',m',cq',evo,ho1',ho2',ho3',ho4'⟩⟩:=r'
  subst evi evo
  have ecs:cs'=[.int .u64 (x.after:Int),.slice A' n' cp',.slice B' m' cq']:=ecs
  have en:n'=n:=by rw [← hn1', ← hn1,hxi]
  have em:m'=n2:=by rw [← ho1', ← ho1,hxo]
  subst en em
  subst ecs
  refine sp rfl<|sp rfl<|sp rfl ?_
  refine sM 26 #[.int .u64 0,.slice none 0 0,.slice none 0 0] (λg7=>?_)
  refine Sy.permS (M:=[(g2,26,#[.int .u64 (af:Int),.slice A n' cp,.slice A2 m' cp2]),(g3,38,bcs.toArray),(g7,26,#[.int .u64 0,.slice none 0 0,.slice none 0 0])]++(M1++M2)) (by
   have q:=((List.perm_append_comm (l₁:=M1++M2) (l₂:=[(g7,26,#[.int .u64 0,.slice none 0 0,.slice none 0 0])])).cons (g3,38,bcs.toArray)).cons (g2,26,#[.int .u64 (af:Int),.slice A n' cp,.slice A2 m' cp2])
   refine (List.Perm.of_eq ?_).trans q
   simp only [List.append_assoc,List.cons_append,List.nil_append]) ?_
  refine sw 2 rfl #[.int .u64 (x.after:Int),.slice A' n' cp',.slice B' m' cq'] (wA rfl) ?_
  refine sp rfl ?_
  refine sA ?_
  refine sS (.agg #[.int .u64 (x.after:Int),.slice A' n' cp',.slice B' m' cq']) (qk 2 0 3 rfl rfl Tryz.underlying26) ?_
  refine Sy.callN kR 7 #[.agg #[.int .u64 (x.after:Int),.slice A' n' cp',.slice B' m' cq']] kF (BytE (okTR x) (encTR x)) (λw' hw=>ex_txx (rep:=repTR) monoTR tx_w w' [.int .u64 (x.after:Int),.slice A' n' cp',.slice B' m' cq'] x (monoTR (rdB_world hw (λb hb=>by simp [hb])) r0) rfl (by omega)) (λu M3 hM=>?_)
  obtain ⟨u3,rfl,k3⟩:=hM.uni
  rw [← hok] at k3 ⊢
  have k3:BytR (rdB M3) u3 (encTR x):=k3
  refine sp rfl<|sp rfl<|sp rfl<|sp rfl<|sp rfl ?_
  refine sG<|Sy.seq ?_
  refine Sy.regionD (λ_=>false) kR ?_
  refine sa 0 rfl rfl<|sb 1 rfl (.bool false)<|sa 2 rfl rfl<|sa 3 rfl rfl<|sb 4 rfl (.bool false)<|sb 5 rfl (.bool false)<|sa 6 rfl rfl<|sa 7 rfl rfl<|sa 8 rfl rfl<|sD 9 rfl (.bool true) (qg (λw' hw=>same_true w' u1 u3 _ (k1.le (rdB_world hw (λb hb=>by simp [hb]))) (k3.le (rdB_world hw (λb hb=>by simp [hb])))))<|sb 10 rfl (.bool false)<|sb 11 rfl (.bool false)<|sa 12 rfl rfl ?_
  refine sD 13 rfl (.agg #[.int .u64 (x.after:Int),.slice A' n' cp',.slice B' m' cq']) (qk 2 0 3 rfl rfl Tryz.underlying26)<|sD 14 rfl (.agg (d1.map bv).toArray) (qg (λw' hw=>by rw [hd1]; exact txId_any w' [.int .u64 (x.after:Int),.slice A' n' cp',.slice B' m' cq'] x (monoTR (rdB_world hw (λb hb=>by simp [hb])) r0) hwt (tbS_st ht hw)))<|sD 15 rfl (.agg #[.int .u64 (af:Int),.slice A n' cp,.slice A2 m' cp2]) (qk 0 0 3 rfl rfl Tryz.underlying26)<|sD 16 rfl (.agg (d1.map bv).toArray) (qg (λw' hw=>by rw [hd1]; exact txId_any w' [.int .u64 (af:Int),.slice A n' cp,.slice A2 m' cp2] x (monoTR (old w' hw) hx0) hwt (tbS_st ht hw)))<|sD 17 rfl (.bool false) (Quiet.pure (λw'=>neq_dgs_same w' _ _ _ _ d1 l1 rfl rfl rfl))<|sb 18 rfl (.bool false)<|sa 19 rfl rfl ?_
  refine sb 20 rfl (.pointer (some ⟨g7,1,none⟩))<|sD 21 rfl (.slice A' n' cp') (qc 2 1 rfl rfl Tryz.underlying23)<|sb 22 rfl (.int .i64 (n':Int))<|sb 23 rfl (.pointer (some ⟨g2,1,none⟩))<|sD 24 rfl (.slice A n' cp) (qc 0 1 rfl rfl Tryz.underlying23)<|sb 25 rfl (.int .i64 (n':Int))<|sD 26 rfl (.bool false) (Quiet.pure (exec_int .neq _ _ _ .i64 _ _ _ rfl rfl rfl (int_neq _ _ _ _ _ (decide_eq_false (λh=>h rfl)))))<|sb 27 rfl (.bool false)<|sa 28 rfl rfl ?_
  refine sb 29 rfl (.pointer (some ⟨g7,2,none⟩))<|sD 30 rfl (.slice B' m' cq') (qc 2 2 rfl rfl Tryz.underlying24)<|sb 31 rfl (.int .i64 (m':Int))<|sb 32 rfl (.pointer (some ⟨g2,2,none⟩))<|sD 33 rfl (.slice A2 m' cp2) (qc 0 2 rfl rfl Tryz.underlying24)<|sb 34 rfl (.int .i64 (m':Int))<|sD 35 rfl (.bool false) (Quiet.pure (exec_int .neq _ _ _ .i64 _ _ _ rfl rfl rfl (int_neq _ _ _ _ _ (decide_eq_false (λh=>h rfl)))))<|sb 36 rfl (.bool false)<|sa 37 rfl rfl ?_
  refine sb 38 rfl (.pointer (some ⟨g7,0,none⟩))<|sD 39 rfl (.int .u64 (x.after:Int)) (qc 2 0 rfl rfl Tryz.underlying22)<|sb 40 rfl (.pointer (some ⟨g2,0,none⟩))<|sD 41 rfl (.int .u64 (af:Int)) (qc 0 0 rfl rfl Tryz.underlying22)<|sD 42 rfl (.bool false) (Quiet.pure (exec_int .neq _ _ _ .u64 _ _ _ rfl rfl rfl (int_neq _ _ _ _ _ (decide_eq_false (λh=>h (by rw [hxa]))))))<|sb 43 rfl (.bool false) ?_
  refine sE ?_
  refine Sy.then_<|sU<|Sy.skip ?_
  exact leafX K ([(g7,26,#[.int .u64 (x.after:Int),.slice A' n' cp',.slice B' m' cq'])]++(M1++M2)++M3) trivial (all_cons kR (all_cons kR all_nil)) (λ_ h=>by simpa using h)
 refine Sy.then_<|sC ?_
 refine sS (.agg bcs.toArray) (Quiet.mid 1 g3 0 104 38 38 bcs bcs _ _ rfl kR rfl Tryz.underlying38 rfl kR (by rw [List.drop_zero,List.take_of_length_le (by omega)]) (by omega)) ?_
 refine Sy.callN kR 11 #[.agg bcs.toArray] kF (BytE (okBL b) (encBL b)) (λw' hw=>ex_blk (rep:=repBL) monoBL block_w w' bcs b (monoBL (old w' hw) hb) hlb (by omega)) (λu M4 hM=>?_)
 obtain ⟨u4,rfl,k4⟩:=hM.uni
 obtain ⟨ob,hob⟩:∃ o,o=okBL b:=⟨_,rfl⟩
 rw [← hob] at k4 ⊢
 refine sp rfl<|sp rfl<|sp rfl<|sp rfl<|sp rfl ?_
 refine sG<|Sy.seq<|sC ?_
 cases ob
 case' false =>
  obtain ⟨A4,n4,c4,rfl,f2,f3,f4,f5⟩:=k4
  obtain rfl:n4=0:=f2.symm
  refine sp rfl<|sP (.bool true) ?_
  refine sG<|sT<|sC ?_
  refine sS (.bool true) (qg (λw' _=>alive12 w'))<|sp rfl<|sp rfl<|sP (.int .i64 0)<|sP (.bool true)<|sP (.bool true)<|sp rfl ?_
  refine sG<|Sy.ret<|Sy.then_ret ?_
  exact rV (.bool true) rfl
 have k4:BytR (rdB M4) u4 (encBL b):=k4
 have hback:allP rdBL (encBL b)=some b:=fitBL.back hob.symm hdb
 refine sp rfl<|sP (.bool false) ?_
 refine sG<|sU<|Sy.skip<|Sy.then_<|sC ?_
 refine sp rfl ?_
 refine Sy.callN kR 13 #[u4] kF (RdE 104 ((Z32++([Value.int .u64 0]++([Value.int .u64 0]++(Z32++(Z32++([Value.slice none 0 0]++([Value.bool false]++([Value.int .i64 0]++[Value.slice none 0 0]))))))))++([Value.slice none 0 0]++([Value.slice none 0 0]))) repBL (allP rdBL (encBL b))) (λw' hw=>rdx_blk (rep:=repBL) (p:=rdBL) monoBL (@oneBL) block_r w' u4 (encBL b) (k4.le (rdB_world hw (λb hb=>by simp [hb]))) (by omega)) (λu M5 hM=>?_)
 rw [hback] at hM
 rcases hM with ⟨b',cs',e,rfl,l',r'⟩ | ⟨e,_⟩
 case inr=>cases e
 cases e
 obtain ⟨ch',vt',hlh',hH',hT',hTxs',hHd'⟩:=bl_parts r'
 refine sp rfl<|sp rfl<|sp rfl ?_
 refine sM 38 ((Z32++([Value.int .u64 0]++([Value.int .u64 0]++(Z32++(Z32++([Value.slice none 0 0]++([Value.bool false]++([Value.int .i64 0]++[Value.slice none 0 0]))))))))++([Value.slice none 0 0]++([Value.slice none 0 0]))).toArray (λg11=>?_)
 refine Sy.permS (M:=[(g2,26,#[.int .u64 (af:Int),.slice A n cp,.slice A2 n2 cp2]),(g3,38,bcs.toArray),(g11,38,((Z32++([Value.int .u64 0]++([Value.int .u64 0]++(Z32++(Z32++([Value.slice none 0 0]++([Value.bool false]++([Value.int .i64 0]++[Value.slice none 0 0]))))))))++([Value.slice none 0 0]++([Value.slice none 0 0]))).toArray)]++(V++(M4++M5))) (by
  have q:=((List.perm_append_comm (l₁:=V++(M4++M5)) (l₂:=[(g11,38,((Z32++([Value.int .u64 0]++([Value.int .u64 0]++(Z32++(Z32++([Value.slice none 0 0]++([Value.bool false]++([Value.int .i64 0]++[Value.slice none 0 0]))))))))++([Value.slice none 0 0]++([Value.slice none 0 0]))).toArray)])).cons (g3,38,bcs.toArray)).cons (g2,26,#[.int .u64 (af:Int),.slice A n cp,.slice A2 n2 cp2])
  refine (List.Perm.of_eq ?_).trans q
  simp only [List.append_assoc,List.cons_append,List.nil_append]) ?_
 refine sw 2 rfl cs'.toArray (Writes.row 38 cs' 104 _ _ rfl kR kR kR l' (by kernel_rfl) (oneBL r')) ?_
 refine sp rfl ?_
 refine sA ?_
 refine sS (.agg cs'.toArray) (Quiet.mid 2 g11 0 104 38 38 cs' cs' _ _ rfl kR rfl Tryz.underlying38 rfl kR (by rw [List.drop_zero,List.take_of_length_le (by omega)]) (by omega)) ?_
 refine Sy.callN kR 11 #[.agg cs'.toArray] kF (BytE (okBL b) (encBL b)) (λw' hw=>ex_blk (rep:=repBL) monoBL block_w w' cs' b (monoBL (rdB_world hw (λb hb=>by simp [hb])) r') l' (by omega)) (λu M6 hM=>?_)
 obtain ⟨u6,rfl,k6⟩:=hM.uni
 rw [← hob] at k6 ⊢
 have k6:BytR (rdB M6) u6 (encBL b):=k6
 refine sp rfl<|sp rfl<|sp rfl<|sp rfl<|sp rfl ?_
 refine sG ?_
 obtain ⟨d2,hd2⟩:∃ d,d=Sh.taggedS hdNm.data.toList (byE (okHE b.header) (encHE b.header)):=⟨_,rfl⟩
 obtain ⟨d3,hd3⟩:∃ d,d=rootT b.txs:=⟨_,rfl⟩
 have l2:d2.length=32:=by rw [hd2]; exact tagged_len _ _
 have l3:d3.length=32:=by rw [hd3]; exact rootT_len _
 refine Sy.seq ?_
 refine Sy.regionD (λ_=>false) kR ?_
 refine sD 0 rfl (.bool true) (qg (λw' _=>alive12 w'))<|sa 1 rfl rfl<|sa 2 rfl rfl<|sb 3 rfl (.bool true)<|sb 4 rfl (.bool true)<|sa 5 rfl rfl<|sa 6 rfl rfl<|sb 7 rfl (.bool true)<|sb 8 rfl (.bool true)<|sa 9 rfl rfl<|sa 10 rfl rfl<|sa 11 rfl rfl<|sD 12 rfl (.bool true) (qg (λw' hw=>same_true w' u4 u6 _ (k4.le (rdB_world hw (λb hb=>by simp [hb]))) (k6.le (rdB_world hw (λb hb=>by simp [hb])))))<|sb 13 rfl (.bool true)<|sa 14 rfl rfl ?_
 refine sb 15 rfl (.pointer (some ⟨g11,0,none⟩))<|sD 16 rfl (.agg ch'.toArray) (Quiet.mid 2 g11 0 102 38 34 cs' ch' _ _ rfl kR rfl Tryz.underlying34 rfl kR hHd' (by omega))<|sD 17 rfl (.agg (d2.map bv).toArray) (qg (λw' hw=>by rw [hd2]; exact hdId_any w' ch' b.header (monoHE (rdB_world hw (λb hb=>by simp [hb])) hH') hlh' hwh (tbS_st ht hw)))<|sb 18 rfl (.pointer (some ⟨g3,0,none⟩))<|sD 19 rfl (.agg ch.toArray) (Quiet.mid 1 g3 0 102 38 34 bcs ch _ _ rfl kR rfl Tryz.underlying34 rfl kR hHd (by omega))<|sD 20 rfl (.agg (d2.map bv).toArray) (qg (λw' hw=>by rw [hd2]; exact hdId_any w' ch b.header (monoHE (old w' hw) hH) hlh hwh (tbS_st ht hw)))<|sD 21 rfl (.bool true) (Quiet.pure (λw'=>eql_dgs_same w' _ _ _ _ d2 l2 rfl rfl rfl))<|sb 22 rfl (.bool true)<|sa 23 rfl rfl ?_
 refine sb 24 rfl (.pointer (some ⟨g11,103,none⟩))<|sD 25 rfl vt' (Quiet.cell 2 g11 103 38 36 cs'.toArray _ _ rfl rfl rfl Tryz.underlying36 rfl _ (by rw [List.getElem?_toArray]; exact hTxs'))<|sD 26 rfl (.agg (d3.map bv).toArray) (qg (λw' hw=>by rw [hd3]; exact root_tx w' vt' b.txs (LstR.le (rep:=repTR) monoTR (rdB_world hw (λb hb=>by simp [hb])) hT') hnb hwx (tbS_st ht hw)))<|sb 27 rfl (.pointer (some ⟨g3,103,none⟩))<|sD 28 rfl vt (Quiet.cell 1 g3 103 38 36 bcs.toArray _ _ rfl rfl rfl Tryz.underlying36 rfl _ (by rw [List.getElem?_toArray]; exact hTxs))<|sD 29 rfl (.agg (d3.map bv).toArray) (qg (λw' hw=>by rw [hd3]; exact root_tx w' vt b.txs (LstR.le (rep:=repTR) monoTR (old w' hw) hT) hnb hwx (tbS_st ht hw)))<|sD 30 rfl (.bool true) (Quiet.pure (λw'=>eql_dgs_same w' _ _ _ _ d3 l3 rfl rfl rfl))<|sb 31 rfl (.bool true)<|sa 32 rfl rfl ?_
 refine sE ?_
 refine Sy.then_<|Sy.ret ?_
 exact rV (.bool true) rfl
end Wr
end
end Go.Proofs.YtgggdbjakcpanaaGreatDoor
