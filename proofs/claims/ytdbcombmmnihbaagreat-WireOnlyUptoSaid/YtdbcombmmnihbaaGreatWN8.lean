/-
  Texts of ours, put together: WirGM, WirGN, WirGO, WirAA, WireOnlyL.
-/
import Derived.Test.YtdbcombmmnihbaaGreatWN7
set_option linter.unusedVariables false
set_option linter.unusedSimpArgs false
namespace Go.Proofs.YtdbcombmmnihbaaGreat
section
namespace Wr
open Go.RowKit Sy
set_option maxRecDepth 100000
set_option maxHeartbeats 4000000
theorem bindI {α β:Type} {p:Ps α} {q:α→Ps β} {l r:Byt} {x:β} (h:bindP p q l=some (x,r)):∃ y r1,p l=some (y,r1)∧q y r1=some (x,r):=by
  cases hp:p l with
  | none=>rw [bind_none hp] at h; cases h
  | some u=>obtain ⟨y,r1⟩:=u; rw [bind_some hp] at h; exact ⟨y,r1,rfl,h⟩
theorem mustI {b:Bool} {l r:Byt} {u:Unit} (h:mustP b l=some (u,r)):b=true∧l=r:=by
  unfold mustP at h
  cases b
  · cases h
  · cases h; exact ⟨rfl,rfl⟩
theorem mustF {α:Type} {b:Bool} (hb:b=true) (q:Unit→Ps α) (l:Byt):bindP (mustP b) q l=q () l:=by subst hb; rfl
structure Fits {α:Type} (p:Ps α) (ok:α→Bool) (enc:α→Byt) (dom:α→Prop):Prop where
  inv:∀ {l r:Byt} {x:α},p l=some (x,r)→(ok x=true∧dom x)∧l=enc x++r
  fwd:∀ {x:α} (r:Byt),ok x=true→dom x→p (enc x++r)=some (x,r)
theorem Fits.only {α : Type} {p : Ps α} {ok : α → Bool} {enc : α → Byt} {dom : α → Prop} (h : Fits p ok enc dom) {l : Byt} {x : α} (hp : allP p l = some x) : (ok x = true ∧ dom x) ∧ enc x = l := by
  unfold allP at hp
  cases e:p l with
  | none=>rw [e] at hp; cases hp
  | some u =>
    obtain ⟨y,r⟩:=u
    rw [e] at hp
    cases r with
    | nil =>
      cases hp
      obtain ⟨h1,h2⟩:=h.inv e
      exact ⟨h1,by rw [h2,List.append_nil]⟩
    | cons=>cases hp
theorem fitTake (n:Nat):Fits (takeP n) (λ_=>true) (λx=>x) (λx=>x.length=n):=by
  refine ⟨λh=>⟨⟨rfl,(take_len h).1⟩,(take_len h).2⟩,λ{x} r _ hx=>?_⟩
  show takeP n (x++r)=some (x,r)
  unfold takeP
  subst hx
  rw [if_pos (by rw [List.length_append]; omega),List.take_left,List.drop_left]
theorem fitNum (k : Nat) : Fits (numP k) (fun _ => true) (nb k) (fun n => n < 256 ^ k) := by
  refine ⟨λ{l r n} h=>?_,λ{n} r _ hn=>?_⟩
  · have hlt:=num_lt h
    obtain ⟨b,r1,h1,h2⟩:=bindI h
    cases h2
    obtain ⟨e1,rfl⟩:=take_len h1
    refine ⟨⟨rfl,hlt⟩,?_⟩
    rw [← e1,nb_said]
  · unfold numP
    rw [bind_some ((fitTake k).fwd r rfl (nb_len k n)),said_nb k n hn]
    rfl
theorem fitOct : Fits octP okO (fun z => [octB z]) (fun _ => True) := by
  refine ⟨λ{l r z} h=>?_,λ{z} r hz _=>?_⟩
  · obtain ⟨n, r1, h1, h2⟩ := bindI h
    cases h2
    obtain ⟨⟨_,h3⟩,rfl⟩:=(fitNum 1).inv h1
    have h3:n<256:=h3
    refine ⟨⟨?_,trivial⟩,?_⟩
    · unfold okO
      rw [decide_eq_true (show (0:Int)≤n by omega),decide_eq_true (show (n:Int)≤255 by omega)]; rfl
    · have e:((n:Int)%256).toNat=n:=by omega
      unfold octB
      rw [e]
      show UInt8.ofNat (n / 256 ^ 0)::[]++r=_
      rw [Nat.pow_zero,Nat.div_one]
  · unfold okO at hz
    rw [Bool.and_eq_true,decide_eq_true_eq,decide_eq_true_eq] at hz
    have e:[octB z]=nb 1 z.toNat:=by
      unfold octB
      rw [show (z%256).toNat=z.toNat by omega]
      show _=[UInt8.ofNat (z.toNat / 256 ^ 0)]
      rw [Nat.pow_zero,Nat.div_one]
    unfold octP
    rw [e,bind_some ((fitNum 1).fwd r rfl (show z.toNat<256 by omega))]
    show some (((z.toNat:Nat):Int),r)=some (z,r)
    rw [Int.toNat_of_nonneg hz.1]
theorem fitVar (most : Nat) : Fits (varP most) (fun n => decide (n ≤ most)) varB (fun n => n < 18446744073709551616) := by
  have one:∀ (c:Nat) (r:Byt),c<256→numP 1 (UInt8.ofNat c::r)=some (c,r):=λc r hc=>by
    have e:UInt8.ofNat c::r=nb 1 c++r:=by show _=UInt8.ofNat (c / 256 ^ 0)::([]++r); rw [Nat.pow_zero,Nat.div_one,List.nil_append]
    rw [e]; exact (fitNum 1).fwd r rfl hc
  refine ⟨λ{l r n} h=>?_,λ{n} r hn hd=>?_⟩
  · obtain ⟨m, r1, h1, h2⟩ := bindI h
    obtain ⟨_,r2,h3,h4⟩:=bindI h2
    obtain ⟨hm,rfl⟩:=mustI h3
    cases h4
    refine ⟨⟨hm,?_⟩,?_⟩ <;> obtain ⟨c,r3,h5,h6⟩:=bindI h1 <;> obtain ⟨⟨_,h7⟩,rfl⟩:=(fitNum 1).inv h5 <;> have h7:c<256:=h7
    all_goals by_cases hc:c<253
    · rw [if_pos hc] at h6; cases h6; omega
    · rw [if_neg hc] at h6
      obtain ⟨k,r4,h8,h9⟩:=bindI h6
      obtain ⟨_,r5,h10,h11⟩:=bindI h9
      obtain ⟨hk,rfl⟩:=mustI h10
      cases h11
      have h12:=num_lt h8
      have hw : wide c ≤ 8 := by unfold wide; repeat' split
                                 all_goals omega
      exact Nat.lt_of_lt_of_le h12 (Nat.pow_le_pow_right (by decide) hw)
    · rw [if_pos hc] at h6; cases h6
      unfold varB
      rw [if_pos hc]
      show UInt8.ofNat (_ / 256 ^ 0)::[]++_=_
      rw [Nat.pow_zero,Nat.div_one]
    · rw [if_neg hc] at h6
      obtain ⟨k,r4,h8,h9⟩:=bindI h6
      obtain ⟨_,r5,h10,h11⟩:=bindI h9
      obtain ⟨hk,rfl⟩:=mustI h10
      cases h11
      obtain ⟨⟨_,h12⟩,rfl⟩:=(fitNum (wide c)).inv h8
      have hk:=of_decide_eq_true hk
      have h13:c=253∨c=254∨c=255:=by omega
      have e0:nb 1 c=[UInt8.ofNat c]:=by show UInt8.ofNat (c / 256 ^ 0)::[]=_; rw [Nat.pow_zero,Nat.div_one]
      rw [e0]
      unfold varB
      rcases h13 with rfl | rfl | rfl
      · have h12:_<65536:=h12
        have hk:253≤_:=hk
        rw [if_neg (by omega),if_pos h12]; rfl
      · have h12:_<4294967296:=h12
        have hk:65536≤_:=hk
        rw [if_neg (by omega),if_neg (by omega),if_pos h12]; rfl
      · have hk:4294967296≤_:=hk
        rw [if_neg (by omega),if_neg (by omega),if_neg (by omega)]; rfl
  · have lng : ∀ (c : Nat), c < 256 → 253 ≤ c → n < 256 ^ wide c → least c ≤ n → bindP (bindP (numP 1) fun c => if c < 253 then retP c else longP c) (fun n => bindP (mustP (decide (n ≤ most))) fun _ => retP n) (UInt8.ofNat c :: (nb (wide c) n ++ r)) = some (n, r) := fun c h1 h2 h3 h4 => by
      have e:bindP (numP 1) (λc=>if c<253 then retP c else longP c) (UInt8.ofNat c::(nb (wide c) n++r))=some (n,r):=by
        rw [bind_some (one c _ h1),if_neg (by omega)]
        unfold longP
        rw [bind_some ((fitNum (wide c)).fwd r rfl h3),mustF (decide_eq_true h4)]
        rfl
      rw [bind_some e,mustF hn]
      rfl
    unfold varP varB
    by_cases a1:n<253
    · rw [if_pos a1]
      have e:bindP (numP 1) (λc=>if c<253 then retP c else longP c) ([UInt8.ofNat n]++r)=some (n,r):=by
        show bindP _ _ (UInt8.ofNat n::r)=_
        rw [bind_some (one n r (by omega)),if_pos a1]
        rfl
      rw [bind_some e,mustF hn]
      rfl
    · rw [if_neg a1]
      by_cases a2:n<65536
      · rw [if_pos a2]; exact lng 253 (by decide) (by decide) a2 (show 253≤n by omega)
      · rw [if_neg a2]
        by_cases a3:n<4294967296
        · rw [if_pos a3]; exact lng 254 (by decide) (by decide) a3 (show 65536≤n by omega)
        · rw [if_neg a3]; exact lng 255 (by decide) (by decide) hd (show 4294967296≤n by omega)
theorem fitText (most : Nat) : Fits (textP most) (fun x => decide (x.length ≤ most)) encT (fun x => x.length < 18446744073709551616) := by
  refine ⟨λ{l r x} h=>?_,λ{x} r hx hd=>?_⟩
  · obtain ⟨n,r1,h1,h2⟩:=bindI h
    obtain ⟨⟨h3,h4⟩,rfl⟩:=(fitVar most).inv h1
    obtain ⟨⟨_,h5⟩,rfl⟩:=(fitTake n).inv h2
    subst h5
    exact ⟨⟨h3,h4⟩,by unfold encT; rw [List.append_assoc]⟩
  · unfold encT textP
    rw [List.append_assoc,bind_some ((fitVar most).fwd _ hx hd),(fitTake x.length).fwd r rfl rfl]
theorem fitRep {α : Type} {p : Ps α} {ok : α → Bool} {enc : α → Byt} {dom : α → Prop} (hp : Fits p ok enc dom) : ∀ (n : Nat), Fits (repP p n) (fun l => l.all ok) (fun l => l.flatMap enc) (fun l => l.length = n ∧ ∀ x ∈ l, dom x)
  | 0 => ⟨fun {l r x} h => by cases h; exact ⟨⟨rfl, rfl, fun _ hx => by cases hx⟩, rfl⟩, fun {x} r _ hx => by
      obtain rfl:x=[]:=List.length_eq_zero_iff.1 hx.1
      rfl⟩
  | n + 1 => by
    have ih:=fitRep hp n
    refine ⟨λ{l r x} h=>?_,λ{x} r hx hd=>?_⟩
    · obtain ⟨y, r1, h1, h2⟩ := bindI (p := p) h
      obtain ⟨ys,r2,h3,h4⟩:=bindI (p:=repP p n) h2
      cases h4
      obtain ⟨⟨a1,a2⟩,rfl⟩:=hp.inv h1
      obtain ⟨⟨b1,b2,b3⟩,rfl⟩:=ih.inv h3
      refine ⟨⟨?_,by rw [List.length_cons,b2],λz hz=>?_⟩,by rw [List.flatMap_cons,List.append_assoc]⟩
      · rw [List.all_cons,a1,b1]; rfl
      · rcases List.mem_cons.1 hz with rfl | hz
        · exact a2
        · exact b3 z hz
    · cases x with
      | nil=>cases hd.1
      | cons y ys =>
        rw [List.all_cons,Bool.and_eq_true] at hx
        show bindP p (λx=>bindP (repP p n) λl=>retP (x::l)) _=_
        rw [List.flatMap_cons,List.append_assoc,bind_some (hp.fwd _ hx.1 (hd.2 y (List.mem_cons_self ..))),bind_some (ih.fwd r hx.2 ⟨by have:=hd.1; rw [List.length_cons] at this; omega,λz hz=>hd.2 z (List.mem_cons_of_mem _ hz)⟩)]
        rfl
theorem fitList {α : Type} {p : Ps α} {ok : α → Bool} {enc : α → Byt} {dom : α → Prop} (hp : Fits p ok enc dom) (most : Nat) : Fits (listP most p) (fun l => decide (l.length ≤ most) && l.all ok) (encL enc) (fun l => l.length < 18446744073709551616 ∧ ∀ x ∈ l, dom x) := by
  refine ⟨λ{l r x} h=>?_,λ{x} r hx hd=>?_⟩
  · obtain ⟨n,r1,h1,h2⟩:=bindI h
    obtain ⟨⟨h3,h4⟩,rfl⟩:=(fitVar most).inv h1
    obtain ⟨⟨h5,h6,h7⟩,rfl⟩:=(fitRep hp n).inv h2
    subst h6
    exact ⟨⟨by rw [h3,h5]; rfl,h4,h7⟩,by unfold encL; rw [List.append_assoc]⟩
  · rw [Bool.and_eq_true] at hx
    unfold encL listP
    rw [List.append_assoc,bind_some ((fitVar most).fwd _ hx.1 hd.1),(fitRep hp x.length).fwd r hx.2 ⟨rfl,hd.2⟩]
theorem fitTru : Fits truP (fun _ => true) (fun b => [trB b]) (fun _ => True) := by
  refine ⟨λ{l r x} h=>?_,λ{x} r _ _=>?_⟩
  · obtain ⟨z,r1,h1,h2⟩:=bindI h
    obtain ⟨_,r2,h3,h4⟩:=bindI h2
    obtain ⟨hz,rfl⟩:=mustI h3
    cases h4
    obtain ⟨⟨ho,_⟩,rfl⟩:=fitOct.inv h1
    refine ⟨⟨rfl,trivial⟩,?_⟩
    have hz:=of_decide_eq_true hz
    unfold okO at ho
    rw [Bool.and_eq_true,decide_eq_true_eq,decide_eq_true_eq] at ho
    have:z=0∨z=1:=by omega
    rcases this with rfl | rfl <;> rfl
  · unfold truP trB
    rw [bind_some (fitOct.fwd r (by cases x <;> rfl) trivial)]
    cases x <;> rfl
theorem dec_mPt {P : Cu.Pt} (h : Ec.On P) : Cu.dec (mPt P).x (mPt P).y (mPt P).i = P := by
  cases P with
  | none=>rfl
  | some p =>
    obtain ⟨x,y⟩:=p
    have hon:y.val*y.val%pM=(x.val*x.val%pM*x.val%pM+7)%pM:=congrArg Fin.val h
    unfold Cu.dec
    exact dif_pos (⟨rfl,x.isLt,y.isLt,hon⟩:false=false∧x.val<pM∧y.val<pM∧_)
theorem ok_dec {p : MPt} (h : okPT p = true) : ∃ P, p = mPt P ∧ Ec.On P := by
  obtain ⟨x,y,i⟩:=p
  unfold okPT at h
  rw [Bool.and_eq_true] at h
  obtain ⟨h1,h2⟩:=h
  cases i with
  | true=>cases h2
  | false =>
    unfold Cu.rightB at h1
    rw [if_neg (show ¬ (false=true) by decide)] at h1
    simp only [Bool.and_eq_true,decide_eq_true_eq] at h1
    obtain ⟨⟨hx,hy⟩,he⟩:=h1
    exact ⟨some (⟨x,hx⟩,⟨y,hy⟩),rfl,Fin.ext he⟩
theorem fitPt : Fits ptP okPT encPT (fun p => p.x < Cu.K4 ∧ p.y < Cu.K4) := by
  refine ⟨λ{l r x} h=>?_,λ{x} r hx hd=>?_⟩
  · obtain ⟨b, r1, h1, h2⟩ := bindI h
    obtain ⟨_,r2,h3,h4⟩:=bindI h2
    obtain ⟨hz,rfl⟩:=mustI h3
    cases h4
    obtain ⟨⟨_,h5⟩,rfl⟩:=(fitTake 33).inv h1
    refine ⟨⟨by rw [okPT_dec]; exact hz,mPt_lt _⟩,?_⟩
    congr 1
    have hb : Cu.decOk b = true := by
      cases hd:Cu.decOk b with
      | true=>rfl
      | false =>
        have e:Cu.decP b=none:=by unfold Cu.decP; rw [if_neg (by rw [hd]; decide)]
        rw [e] at hz
        cases hz
    obtain ⟨_,h6,_⟩:=Cu.decP_ok hb
    unfold encPT
    rw [dec_mPt (Cu.decP_on b),h6]
  · obtain ⟨P, hP, hon⟩ := ok_dec hx
    have e:Cu.dec x.x x.y x.i=P:=by rw [hP]; exact dec_mPt hon
    obtain ⟨d1,d2⟩:=Cu.dec_enc hon
    unfold ptP encPT
    rw [e,bind_some ((fitTake 33).fwd r rfl (Cu.encS_length P)),d2, ← hP,mustF (by
      have h:=hx
      unfold okPT at h
      rw [Bool.and_eq_true] at h
      exact h.2)]
    rfl
end Wr
end
section
namespace Wr
open Go.RowKit Sy
set_option maxRecDepth 100000
set_option maxHeartbeats 4000000
theorem fitSC:Fits rdSC okSC encSC (λn=>n<Cu.K4):=by
 refine ⟨λ{l r x} h=>?_,λ{x} r hx hd=>?_⟩
 ·obtain ⟨b,r1,h1,u1⟩:=bindI h
  obtain ⟨_,r2,h2,u2⟩:=bindI u1
  obtain ⟨hz,rfl⟩:=mustI h2
  cases u2
  obtain ⟨⟨_,h5⟩,rfl⟩:=(fitTake 32).inv h1
  have e:Sc.readS b=(valB b,true)∧valB b<Sc.pM:=by
   unfold Sc.readS at hz ⊢
   by_cases hv:valB b<Sc.pM
   ·rw [if_pos hv]; exact ⟨rfl,hv⟩
   ·rw [if_neg hv] at hz; cases hz
  rw [e.1]
  have em:valB b%Sc.pM=valB b:=Nat.mod_eq_of_lt e.2
  refine ⟨⟨by unfold okSC; exact decide_eq_true em,valB_lt32 b h5⟩,?_⟩
  unfold encSC
  rw [em,bytesS_valB b h5]
 ·have em:=of_decide_eq_true hx
  have hlt:x<Sc.pM:=by rw [← em]; exact Nat.mod_lt _ (by decide)
  have hv:valB (bytesS x)=x:=valB_bytesS x hd
  unfold rdSC encSC
  rw [em,bind_some ((fitTake 32).fwd r rfl (bytesS_length x))]
  have e:Sc.readS (bytesS x)=(x,true):=by unfold Sc.readS; rw [hv,if_pos hlt]
  rw [e]
  rfl
theorem nul_pt {p:MPt} (hd:p.x<Cu.K4∧p.y<Cu.K4) (h:nulPT p=true):p=⟨0,0,false⟩:=by
 obtain ⟨x,y,i⟩:=p
 unfold nulPT Cu.sameB at h
 simp only [Bool.and_eq_true,decide_eq_true_eq,beq_iff_eq] at h
 obtain ⟨rfl,rfl,rfl⟩:=h
 rfl
def domTG (t:MTag):Prop:=t.id.length=32∧t.pt.x<Cu.K4∧t.pt.y<Cu.K4
theorem fitTG:Fits rdTG okTG encTG domTG:=by
 refine ⟨λ{l r x} h=>?_,λ{x} r hx hd=>?_⟩
 ·obtain ⟨b,r1,h1,u3⟩:=bindI h
  obtain ⟨_,rfl⟩:=fitTru.inv h1
  cases b
  ·rw [if_neg (by decide)] at u3
   obtain ⟨d,r2,h2,u4⟩:=bindI u3
   cases u4
   obtain ⟨⟨_,h3⟩,rfl⟩:=(fitTake 32).inv h2
   exact ⟨⟨rfl,h3,(show 0<Cu.K4 by decide),(show 0<Cu.K4 by decide)⟩,by unfold encTG; rfl⟩
  ·rw [if_pos rfl] at u3
   obtain ⟨d,r2,h2,u5⟩:=bindI u3
   cases u5
   obtain ⟨⟨h3,h4⟩,rfl⟩:=fitPt.inv h2
   refine ⟨⟨?_,rfl,h4⟩,by unfold encTG; rfl⟩
   unfold okTG; rw [if_pos rfl,h3]; rfl
 ·obtain ⟨b,d,p⟩:=x
  obtain ⟨h1,h2⟩:=hd
  unfold okTG at hx
  unfold encTG rdTG
  dsimp only at h1 h2 hx ⊢
  cases b
  ·rw [if_neg (by decide)] at hx ⊢
   obtain rfl:=nul_pt h2 hx
   rw [List.append_assoc,bind_some (fitTru.fwd _ rfl trivial),if_neg (by decide),bind_some ((fitTake 32).fwd r rfl h1)]
   rfl
  ·rw [if_pos rfl] at hx ⊢
   rw [Bool.and_eq_true] at hx
   obtain rfl:=of_decide_eq_true hx.2
   rw [List.append_assoc,bind_some (fitTru.fwd _ rfl trivial),if_pos rfl,bind_some (fitPt.fwd r hx.1 h2)]
   rfl
def domAM (t:MAmt):Prop:=t.value<18446744073709551616∧t.pt.x<Cu.K4∧t.pt.y<Cu.K4
theorem fitAM:Fits rdAM okAM encAM domAM:=by
 refine ⟨λ{l r x} h=>?_,λ{x} r hx hd=>?_⟩
 ·obtain ⟨b,r1,h1,u6⟩:=bindI h
  obtain ⟨_,rfl⟩:=fitTru.inv h1
  cases b
  ·rw [if_neg (by decide)] at u6
   obtain ⟨d,r2,h2,u7⟩:=bindI u6
   cases u7
   obtain ⟨⟨_,h3⟩,rfl⟩:=(fitNum 8).inv h2
   exact ⟨⟨rfl,h3,(show 0<Cu.K4 by decide),(show 0<Cu.K4 by decide)⟩,by unfold encAM; rfl⟩
  ·rw [if_pos rfl] at u6
   obtain ⟨d,r2,h2,u8⟩:=bindI u6
   cases u8
   obtain ⟨⟨h3,h4⟩,rfl⟩:=fitPt.inv h2
   refine ⟨⟨?_,(show 0<18446744073709551616 by decide),h4⟩,by unfold encAM; rfl⟩
   unfold okAM; rw [if_pos rfl,h3]; rfl
 ·obtain ⟨b,d,p⟩:=x
  obtain ⟨h1,h2⟩:=hd
  unfold okAM at hx
  unfold encAM rdAM
  dsimp only at h1 h2 hx ⊢
  cases b
  ·rw [if_neg (by decide)] at hx ⊢
   obtain rfl:=nul_pt h2 hx
   rw [List.append_assoc,bind_some (fitTru.fwd _ rfl trivial),if_neg (by decide),bind_some ((fitNum 8).fwd r rfl h1)]
   rfl
  ·rw [if_pos rfl] at hx ⊢
   rw [Bool.and_eq_true] at hx
   obtain rfl:=of_decide_eq_true hx.2
   rw [List.append_assoc,bind_some (fitTru.fwd _ rfl trivial),if_pos rfl,bind_some (fitPt.fwd r hx.1 h2)]
   rfl
theorem fitKind (k:Int→Bool) (hk:∀ z,k z=true→okO z=true):Fits (λl=>bindP octP (λz=>bindP (mustP (k z)) λ_=>retP z) l) k (λz=>[octB z]) (λ_=>True):=by
 refine ⟨λ{l r x} h=>?_,λ{x} r hx _=>?_⟩
 ·obtain ⟨z,r1,h1,u9⟩:=bindI h
  obtain ⟨_,r2,h2,u10⟩:=bindI u9
  obtain ⟨hz,rfl⟩:=mustI h2
  cases u10
  obtain ⟨_,rfl⟩:=fitOct.inv h1
  exact ⟨⟨hz,trivial⟩,rfl⟩
 ·show bindP octP _ _=_
  rw [bind_some (fitOct.fwd r (hk x hx) trivial),mustF hx]
  rfl
theorem kind_split {α:Type} (k:Int→Bool) (f:Int→Ps α):bindP octP (λz=>bindP (mustP (k z)) λ_=>f z)=bindP (λl=>bindP octP (λz=>bindP (mustP (k z)) λ_=>retP z) l) f:=by
 funext l
 cases h:octP l with
 | none=>rw [bind_none h,bind_none]; exact bind_none h
 | some u =>
  obtain ⟨z,r⟩:=u
  rw [bind_some h]
  cases hk:k z with
  | false =>
   have e:(λl=>bindP octP (λz=>bindP (mustP (k z)) λ_=>retP z) l) l=none:=by
    show bindP octP _ l=none
    rw [bind_some h,hk]
    rfl
   rw [bind_none e]
   rfl
  | true =>
   have e:(λl=>bindP octP (λz=>bindP (mustP (k z)) λ_=>retP z) l) l=some (z,r):=by
    show bindP octP _ l=_
    rw [bind_some h,hk]
    rfl
   rw [bind_some e]
   rfl
theorem kindO (z:Int) (h:okK z=true):okO z=true:=by
 unfold okK at h; unfold okO
 rw [Bool.and_eq_true,decide_eq_true_eq,decide_eq_true_eq] at h ⊢
 omega
theorem kindO2 (z:Int) (h:okK2 z=true):okO z=true:=by
 unfold okK2 at h; unfold okO
 rw [Bool.and_eq_true,decide_eq_true_eq,decide_eq_true_eq] at h ⊢
 omega
def domTx (x:Byt):Prop:=x.length<18446744073709551616
def rdOU':Ps MOu:=bindP (λl=>bindP octP (λz=>bindP (mustP (okK z)) λ_=>retP z) l) λk=>bindP rdTG λa=>bindP rdAM λb=>bindP (textP 6000) λr=>bindP (textP 6000) λs=>bindP (textP 128) λn=>bindP (textP 256) λc=>retP ⟨k,a,b,r,s,n,c⟩
theorem rdOU_eq:rdOU=rdOU':=kind_split okK _
def domOU (x:MOu):Prop:=True∧domTG x.asset∧domAM x.amount∧domTx x.range∧domTx x.surject∧domTx x.note∧domTx x.script
theorem fitOU1:Fits rdOU' okOU encOU domOU:=by
 refine ⟨λ{l r x} h=>?_,λ{x} r hx hd=>?_⟩
 ·obtain ⟨y1,r1,h1,u11⟩:=bindI h
  obtain ⟨⟨o1,d1⟩,rfl⟩:=(fitKind okK kindO).inv h1
  obtain ⟨y2,r2,h2,u12⟩:=bindI u11
  obtain ⟨⟨o2,d2⟩,rfl⟩:=(fitTG).inv h2
  obtain ⟨y3,r3,h3,u13⟩:=bindI u12
  obtain ⟨⟨o3,d3⟩,rfl⟩:=(fitAM).inv h3
  obtain ⟨y4,r4,h4,u14⟩:=bindI u13
  obtain ⟨⟨o4,d4⟩,rfl⟩:=(fitText 6000).inv h4
  obtain ⟨y5,r5,h5,u15⟩:=bindI u14
  obtain ⟨⟨o5,d5⟩,rfl⟩:=(fitText 6000).inv h5
  obtain ⟨y6,r6,h6,u16⟩:=bindI u15
  obtain ⟨⟨o6,d6⟩,rfl⟩:=(fitText 128).inv h6
  obtain ⟨y7,r7,h7,u17⟩:=bindI u16
  obtain ⟨⟨o7,d7⟩,rfl⟩:=(fitText 256).inv h7
  cases u17
  refine ⟨⟨?_,⟨d1,d2,d3,d4,d5,d6,d7⟩⟩,?_⟩
  ·unfold okOU; simp only [o1,o2,o3,o4,o5,o6,o7,Bool.and_self]; try rfl
  ·unfold encOU; simp only [List.append_assoc]
 ·obtain ⟨y1,y2,y3,y4,y5,y6,y7⟩:=x
  obtain ⟨d1,d2,d3,d4,d5,d6,d7⟩:=hd
  unfold okOU at hx
  simp only [Bool.and_eq_true] at hx
  obtain ⟨o1,o2,o3,o4,o5,o6,o7⟩:=hx
  dsimp only at *
  unfold encOU rdOU'
  simp only [List.append_assoc]
  rw [bind_some ((fitKind okK kindO).fwd _ o1 d1),bind_some ((fitTG).fwd _ o2 d2),bind_some ((fitAM).fwd _ o3 d3),bind_some ((fitText 6000).fwd _ o4 d4),bind_some ((fitText 6000).fwd _ o5 d5),bind_some ((fitText 128).fwd _ o6 d6),bind_some ((fitText 256).fwd _ o7 d7)]
  rfl
theorem fitOU:Fits rdOU okOU encOU domOU:=by rw [rdOU_eq]; exact fitOU1
def domPA (x:MPa):Prop:=True∧(x.keys.length<18446744073709551616∧∀ k∈x.keys,k.length=32)
theorem fitPA:Fits rdPA okPA encPA domPA:=by
 refine ⟨λ{l r x} h=>?_,λ{x} r hx hd=>?_⟩
 ·obtain ⟨y1,r1,h1,u18⟩:=bindI h
  obtain ⟨⟨o1,d1⟩,rfl⟩:=(fitOct).inv h1
  obtain ⟨y2,r2,h2,u19⟩:=bindI u18
  obtain ⟨⟨o2,d2⟩,rfl⟩:=(fitList (fitTake 32) 16).inv h2
  cases u19
  refine ⟨⟨?_,⟨d1,d2⟩⟩,?_⟩
  ·unfold okPA; rw [all_true,Bool.and_true] at o2; simp only [o1,o2,Bool.and_self]; try rfl
  ·unfold encPA; simp only [List.append_assoc]
 ·obtain ⟨y1,y2⟩:=x
  obtain ⟨d1,d2⟩:=hd
  unfold okPA at hx
  simp only [Bool.and_eq_true] at hx
  obtain ⟨o1,o2⟩:=hx
  have o2:(decide (y2.length≤16) && y2.all λ_=>true)=true:=by rw [o2,all_true]; rfl
  dsimp only at *
  unfold encPA rdPA
  simp only [List.append_assoc]
  rw [bind_some ((fitOct).fwd _ o1 d1),bind_some ((fitList (fitTake 32) 16).fwd _ o2 d2)]
  rfl
def domMH (x:MHd):Prop:=x.prev.length=32∧x.root.length=32∧x.height<18446744073709551616∧x.nonce<18446744073709551616
theorem fitMH:Fits rdMH (λ_=>true) encMH domMH:=by
 refine ⟨λ{l r x} h=>?_,λ{x} r hx hd=>?_⟩
 ·obtain ⟨y1,r1,h1,u20⟩:=bindI h
  obtain ⟨⟨o1,d1⟩,rfl⟩:=(fitTake 32).inv h1
  obtain ⟨y2,r2,h2,u21⟩:=bindI u20
  obtain ⟨⟨o2,d2⟩,rfl⟩:=(fitTake 32).inv h2
  obtain ⟨y3,r3,h3,u22⟩:=bindI u21
  obtain ⟨⟨o3,d3⟩,rfl⟩:=(fitNum 8).inv h3
  obtain ⟨y4,r4,h4,u23⟩:=bindI u22
  obtain ⟨⟨o4,d4⟩,rfl⟩:=(fitNum 8).inv h4
  cases u23
  refine ⟨⟨?_,⟨d1,d2,d3,d4⟩⟩,?_⟩
  ·rfl
  ·unfold encMH; simp only [List.append_assoc]
 ·obtain ⟨y1,y2,y3,y4⟩:=x
  obtain ⟨d1,d2,d3,d4⟩:=hd
  dsimp only at *
  unfold encMH rdMH
  simp only [List.append_assoc]
  rw [bind_some ((fitTake 32).fwd _ rfl d1),bind_some ((fitTake 32).fwd _ rfl d2),bind_some ((fitNum 8).fwd _ rfl d3),bind_some ((fitNum 8).fwd _ rfl d4)]
  rfl
def domHE (h:MHe):Prop:=h.prev.length=32∧h.height<18446744073709551616∧h.time<18446744073709551616∧h.root.length=32∧h.main.length=32∧domTx h.reward∧domPA h.next
theorem fitHE:Fits rdHE okHE encHE domHE:=by
 refine ⟨λ{l r x} h=>?_,λ{x} r hx hd=>?_⟩
 ·obtain ⟨y1,r1,h1,u24⟩:=bindI h
  obtain ⟨⟨_,d1⟩,rfl⟩:=(fitTake 32).inv h1
  obtain ⟨y2,r2,h2,u25⟩:=bindI u24
  obtain ⟨⟨_,d2⟩,rfl⟩:=(fitNum 8).inv h2
  obtain ⟨y3,r3,h3,u26⟩:=bindI u25
  obtain ⟨⟨_,d3⟩,rfl⟩:=(fitNum 8).inv h3
  obtain ⟨y4,r4,h4,u27⟩:=bindI u26
  obtain ⟨⟨_,d4⟩,rfl⟩:=(fitTake 32).inv h4
  obtain ⟨y5,r5,h5,u28⟩:=bindI u27
  obtain ⟨⟨_,d5⟩,rfl⟩:=(fitTake 32).inv h5
  obtain ⟨y6,r6,h6,u29⟩:=bindI u28
  obtain ⟨⟨o6,d6⟩,rfl⟩:=(fitText 256).inv h6
  obtain ⟨c,r7,h7,u30⟩:=bindI u29
  obtain ⟨_,rfl⟩:=fitTru.inv h7
  obtain ⟨n,r8,h8,u31⟩:=bindI u30
  cases u31
  cases c
  ·rw [if_neg (by decide)] at h8
   cases h8
   refine ⟨⟨?_,d1,d2,d3,d4,d5,d6,trivial,Nat.zero_lt_succ _,λ_ u31=>by cases u31⟩,?_⟩
   ·unfold okHE; dsimp only; rw [o6]; rfl
   ·unfold encHE encT; dsimp only; rw [if_neg (by decide)]; simp only [List.append_assoc,List.nil_append]
  ·rw [if_pos rfl] at h8
   obtain ⟨⟨o8,d8⟩,rfl⟩:=fitPA.inv h8
   refine ⟨⟨?_,d1,d2,d3,d4,d5,d6,d8⟩,?_⟩
   ·unfold okHE; dsimp only; rw [o6,if_pos rfl,o8]; rfl
   ·unfold encHE encT; dsimp only; rw [if_pos rfl]; simp only [List.append_assoc]
 ·obtain ⟨y1,y2,y3,y4,y5,y6,c,n⟩:=x
  obtain ⟨d1,d2,d3,d4,d5,d6,d7⟩:=hd
  unfold okHE at hx
  rw [Bool.and_eq_true] at hx
  obtain ⟨o6,o7⟩:=hx
  unfold encHE rdHE
  dsimp only at *
  show bindP _ _ (_++r)=_
  rw [show y1++(nb 8 y2++(nb 8 y3++(y4++(y5++((varB y6.length++y6)++([trB c]++(if c=true then encPA n else [])))))))++r=y1++(nb 8 y2++(nb 8 y3++(y4++(y5++(encT y6++([trB c]++((if c=true then encPA n else [])++r))))))) by unfold encT; simp only [List.append_assoc]]
  rw [bind_some ((fitTake 32).fwd _ rfl d1),bind_some ((fitNum 8).fwd _ rfl d2),bind_some ((fitNum 8).fwd _ rfl d3),bind_some ((fitTake 32).fwd _ rfl d4),bind_some ((fitTake 32).fwd _ rfl d5),bind_some ((fitText 256).fwd _ o6 d6),bind_some (fitTru.fwd _ rfl trivial)]
  cases c
  ·rw [if_neg (by decide)] at o7
   rw [Bool.and_eq_true] at o7
   obtain ⟨t,ks⟩:=n
   obtain rfl:t=0:=of_decide_eq_true o7.1
   obtain rfl:ks=[]:=List.length_eq_zero_iff.1 (of_decide_eq_true o7.2)
   rfl
  ·rw [if_pos rfl] at o7
   rw [if_pos rfl,if_pos rfl,bind_some (fitPA.fwd _ o7 d7)]
   rfl
def domCF (x:MCf):Prop:=x.peg.length=32∧x.depth<18446744073709551616∧domPA x.fed∧domMH x.main∧(x.coins.length<18446744073709551616∧∀ o∈x.coins,domOU o)
theorem fitCF:Fits rdCF okCF encCF domCF:=by
 refine ⟨λ{l r x} h=>?_,λ{x} r hx hd=>?_⟩
 ·obtain ⟨y1,r1,h1,u32⟩:=bindI h
  obtain ⟨⟨o1,d1⟩,rfl⟩:=(fitTake 32).inv h1
  obtain ⟨y2,r2,h2,u33⟩:=bindI u32
  obtain ⟨⟨o2,d2⟩,rfl⟩:=(fitNum 8).inv h2
  obtain ⟨y3,r3,h3,u34⟩:=bindI u33
  obtain ⟨⟨o3,d3⟩,rfl⟩:=(fitPA).inv h3
  obtain ⟨y4,r4,h4,u35⟩:=bindI u34
  obtain ⟨⟨o4,d4⟩,rfl⟩:=(fitMH).inv h4
  obtain ⟨y5,r5,h5,u36⟩:=bindI u35
  obtain ⟨⟨o5,d5⟩,rfl⟩:=(fitList fitOU 64).inv h5
  cases u36
  refine ⟨⟨?_,⟨d1,d2,d3,d4,d5⟩⟩,?_⟩
  ·unfold okCF; simp only [o3,o5,Bool.and_self]; try rfl
  ·unfold encCF; simp only [List.append_assoc]
 ·obtain ⟨y1,y2,y3,y4,y5⟩:=x
  obtain ⟨d1,d2,d3,d4,d5⟩:=hd
  unfold okCF at hx
  simp only [Bool.and_eq_true] at hx
  obtain ⟨o3,o5⟩:=hx
  rw [← Bool.and_eq_true] at o5
  dsimp only at *
  unfold encCF rdCF
  simp only [List.append_assoc]
  rw [bind_some ((fitTake 32).fwd _ rfl d1),bind_some ((fitNum 8).fwd _ rfl d2),bind_some ((fitPA).fwd _ o3 d3),bind_some ((fitMH).fwd _ rfl d4),bind_some ((fitList fitOU 64).fwd _ o5 d5)]
  rfl
end Wr
end
section
namespace Wr
open Go.RowKit Sy
set_option maxRecDepth 100000
set_option maxHeartbeats 4000000
def domIS (i:MIs):Prop:=domAM i.amount∧domTx i.range∧i.tokens<18446744073709551616∧i.entropy.length=32∧i.blind<Cu.K4
theorem nul_am {a:MAmt} (hd:domAM a) (h:nulAM a=true):a=zAM:=by
 obtain ⟨b,v,p⟩:=a
 unfold nulAM at h
 simp only [Bool.and_eq_true,decide_eq_true_eq] at h
 obtain ⟨⟨h1,h2⟩,h3⟩:=h
 obtain rfl:=nul_pt hd.2 h3
 cases b
 ·subst h2; rfl
 ·cases h1
theorem nul_is {i:MIs} (hd:domIS i) (h0:i.kind=0) (h:nulIS i=true):i=zIS:=by
 obtain ⟨k,a,r,t,e,s⟩:=i
 unfold nulIS at h
 simp only [Bool.and_eq_true,decide_eq_true_eq] at h
 obtain ⟨h1,h2,h3,h4,h5⟩:=h
 obtain rfl:=nul_am hd.1 h1
 obtain rfl:r=[]:=List.length_eq_zero_iff.1 h2
 dsimp only at h0
 subst h0 h3 h4 h5
 rfl
theorem dom_zIS:domIS zIS:=⟨⟨(show 0<18446744073709551616 by decide),(show 0<Cu.K4 by decide),(show 0<Cu.K4 by decide)⟩,(show 0<18446744073709551616 by decide),(show 0<18446744073709551616 by decide),rfl,(show 0<Cu.K4 by decide)⟩
theorem ok_zIS:okIS zIS=true:=by decide
theorem fitIS:Fits rdIS okIS encIS domIS:=by
 refine ⟨λ{l r x} h=>?_,λ{x} r hx hd=>?_⟩
 ·obtain ⟨k,r1,h1,u1⟩:=bindI h
  obtain ⟨⟨o1,_⟩,rfl⟩:=fitOct.inv h1
  by_cases hk:k=0
  ·rw [if_pos hk] at u1
   cases u1
   subst hk
   exact ⟨⟨ok_zIS,dom_zIS⟩,by unfold encIS; rfl⟩
  ·rw [if_neg hk] at u1
   obtain ⟨_,r2,h2,u2⟩:=bindI u1
   obtain ⟨hz,rfl⟩:=mustI h2
   unfold fulRd at u2
   obtain ⟨y1,r1,h1,u3⟩:=bindI u2
   obtain ⟨⟨o1,d1⟩,rfl⟩:=fitAM.inv h1
   obtain ⟨y2,r2,h2,u4⟩:=bindI u3
   obtain ⟨⟨o2,d2⟩,rfl⟩:=(fitText 6000).inv h2
   obtain ⟨y3,r3,h3,u5⟩:=bindI u4
   obtain ⟨⟨_,d3⟩,rfl⟩:=(fitNum 8).inv h3
   obtain ⟨y4,r4,h4,u6⟩:=bindI u5
   obtain ⟨⟨_,d4⟩,rfl⟩:=(fitTake 32).inv h4
   obtain ⟨y5,r5,h5,u7⟩:=bindI u6
   obtain ⟨⟨o5,d5⟩,rfl⟩:=fitSC.inv h5
   cases u7
   refine ⟨⟨?_,d1,d2,d3,d4,d5⟩,?_⟩
   ·unfold okIS fulIS; dsimp only; rw [if_neg hk,if_pos (of_decide_eq_true hz),o1,o2,o5]; rfl
   ·unfold encIS bodyIS; dsimp only; rw [if_neg hk]; simp only [List.append_assoc]
 ·by_cases hk:x.kind=0
  ·have hn:nulIS x=true:=by unfold okIS at hx; rwa [if_pos hk] at hx
   obtain rfl:=nul_is hd hk hn
   show bindP octP _ ([octB 0]++[]++r)=_
   rw [List.append_nil,bind_some (fitOct.fwd r (by decide) trivial)]
   rfl
  ·unfold okIS at hx
   rw [if_neg hk] at hx
   by_cases hk2:x.kind=1∨x.kind=2
   ·rw [if_pos hk2] at hx
    obtain ⟨k,y1,y2,y3,y4,y5⟩:=x
    unfold fulIS at hx
    simp only [Bool.and_eq_true] at hx
    obtain ⟨o1,o2,o5⟩:=hx
    obtain ⟨d1,d2,d3,d4,d5⟩:=hd
    dsimp only at *
    unfold encIS bodyIS rdIS
    dsimp only
    rw [if_neg hk]
    simp only [List.append_assoc]
    rw [bind_some (fitOct.fwd _ (by rcases hk2 with rfl | rfl <;> decide) trivial),if_neg hk,mustF (decide_eq_true hk2)]
    unfold fulRd
    rw [bind_some (fitAM.fwd _ o1 d1),bind_some ((fitText 6000).fwd _ o2 d2),bind_some ((fitNum 8).fwd _ rfl d3),bind_some ((fitTake 32).fwd _ rfl d4),bind_some (fitSC.fwd _ o5 d5)]
    rfl
   ·rw [if_neg hk2] at hx; cases hx
def domPG (x:MPg):Prop:=x.header.length=32∧domTx x.tx∧x.place<4294967296∧x.many<4294967296∧(x.path.length<18446744073709551616∧∀ k∈x.path,k.length=32)∧domTx x.script
theorem fitPG:Fits rdPG okPG encPG domPG:=by
 refine ⟨λ{l r x} h=>?_,λ{x} r hx hd=>?_⟩
 ·obtain ⟨y1,r1,h1,u8⟩:=bindI h
  obtain ⟨⟨o1,d1⟩,rfl⟩:=(fitTake 32).inv h1
  obtain ⟨y2,r2,h2,u9⟩:=bindI u8
  obtain ⟨⟨o2,d2⟩,rfl⟩:=(fitText 1024).inv h2
  obtain ⟨y3,r3,h3,u10⟩:=bindI u9
  obtain ⟨⟨o3,d3⟩,rfl⟩:=(fitNum 4).inv h3
  obtain ⟨y4,r4,h4,u11⟩:=bindI u10
  obtain ⟨⟨o4,d4⟩,rfl⟩:=(fitNum 4).inv h4
  obtain ⟨y5,r5,h5,u12⟩:=bindI u11
  obtain ⟨⟨o5,d5⟩,rfl⟩:=(fitList (fitTake 32) 32).inv h5
  obtain ⟨y6,r6,h6,u13⟩:=bindI u12
  obtain ⟨⟨o6,d6⟩,rfl⟩:=(fitText 256).inv h6
  cases u13
  refine ⟨⟨?_,⟨d1,d2,d3,d4,d5,d6⟩⟩,?_⟩
  ·unfold okPG; rw [all_true,Bool.and_true] at o5; simp only [o2,o5,o6,Bool.and_self]; try rfl
  ·unfold encPG; simp only [List.append_assoc]
 ·obtain ⟨y1,y2,y3,y4,y5,y6⟩:=x
  obtain ⟨d1,d2,d3,d4,d5,d6⟩:=hd
  unfold okPG at hx
  simp only [Bool.and_eq_true] at hx
  obtain ⟨o2,o5,o6⟩:=hx
  have o5:(decide (y5.length≤32) && y5.all λ_=>true)=true:=by rw [o5,all_true]; rfl
  dsimp only at *
  unfold encPG rdPG
  simp only [List.append_assoc]
  rw [bind_some ((fitTake 32).fwd _ rfl d1),bind_some ((fitText 1024).fwd _ o2 d2),bind_some ((fitNum 4).fwd _ rfl d3),bind_some ((fitNum 4).fwd _ rfl d4),bind_some ((fitList (fitTake 32) 32).fwd _ o5 d5),bind_some ((fitText 256).fwd _ o6 d6)]
  rfl
theorem nul_pg {p:MPg} (h:nulPG p=true):p=zPG:=by
 obtain ⟨h,t,p,m,l,s⟩:=p
 unfold nulPG at h
 simp only [Bool.and_eq_true,decide_eq_true_eq] at h
 obtain ⟨h1,h2,h3,h4,h5,h6⟩:=h
 obtain rfl:=List.length_eq_zero_iff.1 h2
 obtain rfl:=List.length_eq_zero_iff.1 h5
 obtain rfl:=List.length_eq_zero_iff.1 h6
 subst h1 h3 h4
 rfl
theorem dom_zPG:domPG zPG:=⟨rfl,(show 0<18446744073709551616 by decide),(show 0<4294967296 by decide),(show 0<4294967296 by decide),⟨(show 0<18446744073709551616 by decide),λ_ h=>by cases h⟩,(show 0<18446744073709551616 by decide)⟩
def domIN (i:MIn):Prop:=i.prev.length=32∧i.index<4294967296∧domIS i.issue∧domPG i.peg∧i.wit.length<18446744073709551616∧∀ x∈i.wit,domTx x
theorem fitIN:Fits rdIN okIN encIN domIN:=by
 refine ⟨λ{l r x} h=>?_,λ{x} r hx hd=>?_⟩
 ·obtain ⟨k,r1,h1,u14⟩:=bindI h
  obtain ⟨⟨o0,_⟩,rfl⟩:=fitOct.inv h1
  obtain ⟨_,r2,h2,u15⟩:=bindI u14
  obtain ⟨ok,rfl⟩:=mustI h2
  obtain ⟨y1,r1,h1,u16⟩:=bindI u15
  obtain ⟨⟨_,d1⟩,rfl⟩:=(fitTake 32).inv h1
  obtain ⟨y2,r2,h2,u17⟩:=bindI u16
  obtain ⟨⟨_,d2⟩,rfl⟩:=(fitNum 4).inv h2
  obtain ⟨y3,r3,h3,u18⟩:=bindI u17
  obtain ⟨⟨o3,d3⟩,rfl⟩:=fitIS.inv h3
  obtain ⟨y4,r4,h4,u19⟩:=bindI u18
  obtain ⟨y5,r5,h5,u20⟩:=bindI u19
  obtain ⟨⟨o5,d5⟩,rfl⟩:=(fitList (fitText 256) 16).inv h5
  cases u20
  have o5':okW y5=true:=o5
  by_cases hk:k=2
  ·rw [if_pos hk] at h4
   obtain ⟨⟨o4,d4⟩,rfl⟩:=fitPG.inv h4
   refine ⟨⟨?_,d1,d2,d3,d4,d5⟩,?_⟩
   ·unfold okIN; dsimp only; rw [if_pos hk,ok,o3,o4,o5']; rfl
   ·unfold encIN; dsimp only; rw [if_pos hk]; simp only [List.append_assoc]
  ·rw [if_neg hk] at h4
   cases h4
   refine ⟨⟨?_,d1,d2,d3,dom_zPG,d5⟩,?_⟩
   ·unfold okIN; dsimp only; rw [if_neg hk,ok,o3,o5']; rfl
   ·unfold encIN; dsimp only; rw [if_neg hk]; simp only [List.append_assoc,List.nil_append]
 ·obtain ⟨k,y1,y2,y3,y4,y5⟩:=x
  obtain ⟨d1,d2,d3,d4,d5⟩:=hd
  unfold okIN at hx
  rw [Bool.and_eq_true,Bool.and_eq_true,Bool.and_eq_true] at hx
  obtain ⟨ok,o3,o4,o5⟩:=hx
  dsimp only at *
  unfold encIN rdIN
  dsimp only
  by_cases hk:k=2
  ·rw [if_pos hk] at o4 ⊢
   simp only [List.append_assoc]
   rw [bind_some (fitOct.fwd _ (kindO2 k ok) trivial),mustF ok,bind_some ((fitTake 32).fwd _ rfl d1),bind_some ((fitNum 4).fwd _ rfl d2),bind_some (fitIS.fwd _ o3 d3),if_pos hk,bind_some (fitPG.fwd _ o4 d4),bind_some ((fitList (fitText 256) 16).fwd _ o5 d5)]
   rfl
  ·rw [if_neg hk] at o4 ⊢
   obtain rfl:=nul_pg o4
   simp only [List.append_assoc,List.nil_append]
   rw [bind_some (fitOct.fwd _ (kindO2 k ok) trivial),mustF ok,bind_some ((fitTake 32).fwd _ rfl d1),bind_some ((fitNum 4).fwd _ rfl d2),bind_some (fitIS.fwd _ o3 d3),if_neg hk,bind_some (show retP zPG _=some (zPG,_) from rfl),bind_some ((fitList (fitText 256) 16).fwd _ o5 d5)]
   rfl
def domTR (x:MTr):Prop:=x.after<18446744073709551616∧(x.ins.length<18446744073709551616∧∀ o∈x.ins,domIN o)∧(x.outs.length<18446744073709551616∧∀ o∈x.outs,domOU o)
theorem fitTR:Fits rdTR okTR encTR domTR:=by
 refine ⟨λ{l r x} h=>?_,λ{x} r hx hd=>?_⟩
 ·obtain ⟨y1,r1,h1,u21⟩:=bindI h
  obtain ⟨⟨o1,d1⟩,rfl⟩:=(fitNum 8).inv h1
  obtain ⟨y2,r2,h2,u22⟩:=bindI u21
  obtain ⟨⟨o2,d2⟩,rfl⟩:=(fitList fitIN 16).inv h2
  obtain ⟨y3,r3,h3,u23⟩:=bindI u22
  obtain ⟨⟨o3,d3⟩,rfl⟩:=(fitList fitOU 16).inv h3
  cases u23
  refine ⟨⟨?_,⟨d1,d2,d3⟩⟩,?_⟩
  ·unfold okTR; simp only [o2,o3,Bool.and_self]; try rfl
  ·unfold encTR; simp only [List.append_assoc]
 ·obtain ⟨y1,y2,y3⟩:=x
  obtain ⟨d1,d2,d3⟩:=hd
  unfold okTR at hx
  simp only [Bool.and_eq_true] at hx
  obtain ⟨o2,o3⟩:=hx
  rw [← Bool.and_eq_true] at o2 o3
  dsimp only at *
  unfold encTR rdTR
  simp only [List.append_assoc]
  rw [bind_some ((fitNum 8).fwd _ rfl d1),bind_some ((fitList fitIN 16).fwd _ o2 d2),bind_some ((fitList fitOU 16).fwd _ o3 d3)]
  rfl
def domSG (x:MSg):Prop:=True∧x.sig.length=64
theorem fitSG:Fits rdSG okSG encSG domSG:=by
 refine ⟨λ{l r x} h=>?_,λ{x} r hx hd=>?_⟩
 ·obtain ⟨y1,r1,h1,u24⟩:=bindI h
  obtain ⟨⟨o1,d1⟩,rfl⟩:=(fitOct).inv h1
  obtain ⟨y2,r2,h2,u25⟩:=bindI u24
  obtain ⟨⟨o2,d2⟩,rfl⟩:=(fitTake 64).inv h2
  cases u25
  refine ⟨⟨?_,⟨d1,d2⟩⟩,?_⟩
  ·unfold okSG; simp only [o1,Bool.and_self]; try rfl
  ·unfold encSG; simp only [List.append_assoc]
 ·obtain ⟨y1,y2⟩:=x
  obtain ⟨d1,d2⟩:=hd
  unfold okSG at hx
  have o1:=hx
  dsimp only at *
  unfold encSG rdSG
  simp only [List.append_assoc]
  rw [bind_some ((fitOct).fwd _ o1 d1),bind_some ((fitTake 64).fwd _ rfl d2)]
  rfl
def domBL (x:MBl):Prop:=domHE x.header∧(x.sigs.length<18446744073709551616∧∀ o∈x.sigs,domSG o)∧(x.txs.length<18446744073709551616∧∀ o∈x.txs,domTR o)
theorem fitBL:Fits rdBL okBL encBL domBL:=by
 refine ⟨λ{l r x} h=>?_,λ{x} r hx hd=>?_⟩
 ·obtain ⟨y1,r1,h1,u26⟩:=bindI h
  obtain ⟨⟨o1,d1⟩,rfl⟩:=(fitHE).inv h1
  obtain ⟨y2,r2,h2,u27⟩:=bindI u26
  obtain ⟨⟨o2,d2⟩,rfl⟩:=(fitList fitSG 16).inv h2
  obtain ⟨y3,r3,h3,u28⟩:=bindI u27
  obtain ⟨⟨o3,d3⟩,rfl⟩:=(fitList fitTR 64).inv h3
  cases u28
  refine ⟨⟨?_,⟨d1,d2,d3⟩⟩,?_⟩
  ·unfold okBL; simp only [o1,o2,o3,Bool.and_self]; try rfl
  ·unfold encBL; simp only [List.append_assoc]
 ·obtain ⟨y1,y2,y3⟩:=x
  obtain ⟨d1,d2,d3⟩:=hd
  unfold okBL at hx
  simp only [Bool.and_eq_true] at hx
  obtain ⟨o1,o2,o3⟩:=hx
  rw [← Bool.and_eq_true] at o2 o3
  dsimp only at *
  unfold encBL rdBL
  simp only [List.append_assoc]
  rw [bind_some ((fitHE).fwd _ o1 d1),bind_some ((fitList fitSG 16).fwd _ o2 d2),bind_some ((fitList fitTR 64).fwd _ o3 d3)]
  rfl
end Wr
end
section
namespace Wr
open Go.RowKit Sy
set_option maxRecDepth 100000
set_option maxHeartbeats 4000000
def m0:MTx:=⟨1,[⟨2,List.replicate 32 0⟩]⟩
def b49:Byt:=encMT m0
theorem m0_ok:okMT m0=true:=by kernel_rfl
theorem b49_len:b49.length=49:=by kernel_rfl
theorem m0_rd:allP rdMT b49=some m0:=by kernel_rfl
theorem m0_at {w0:Base} {w:World} {L:Blocks} {g:Nat} {t:TypeId} (hw:St w0 w L) (hL:(g,t,(Value.int .u64 2::Z32).toArray)∈L):repMT (rdW w) [.int .u64 1,.slice (some ⟨g,0,none⟩) 1 1] m0:=by
 refine ⟨_,rfl,(show 1<18446744073709551616 by decide),_,_,_,rfl,rfl,Nat.le_refl _,(by decide),λ_=>⟨g,0,rfl,λj x hx=>?_⟩⟩
 cases j with
 | succ j=>cases hx
 | zero =>
  cases hx
  refine ⟨Value.int .u64 2::Z32,rfl,λu hu=>?_,⟨rfl,by decide,rfl⟩,λi u hu=>?_⟩
  ·rcases List.mem_cons.1 hu with rfl | hu
   ·rfl
   ·obtain ⟨y,_,rfl⟩:=List.mem_map.1 hu; rfl
  ·exact rdB_world hw (R:=[(g,t,(Value.int .u64 2::Z32).toArray)]) (λb hb=>by rw [List.mem_singleton.1 hb]; exact hL) _ _ _ ⟨t,_,List.mem_singleton.2 rfl,by rw [Nat.zero_mul,Nat.add_zero,Nat.zero_add,List.getElem?_toArray]; exact hu⟩
theorem alive12 (w:World):Calls Tryz.prog 11 #[] w (Gets w (.bool true)):=by
 refine Sy.enter (args:=[]) Tryz.func11 rfl kL ?_
 refine sC ?_
 refine sP (.bool false) ?_
 refine sA ?_
 refine sP (.agg (Value.int .u64 2::Z32).toArray) ?_
 refine Sy.make kR 98 (Value.int .u64 2::Z32).toArray (λg=>.slice (some ⟨g,0,none⟩) 1 1) (Makes.one 99 98 _ _ 33 _ (Value.int .u64 2::Z32) rfl kR Tryz.underlying99 info_mo rfl rfl rfl (by decide) (by decide)) (λg=>?_)
 refine sP (.agg #[.int .u64 1,.slice (some ⟨g,0,none⟩) 1 1]) ?_
 refine Sy.callN kR 35 #[.agg #[.int .u64 1,.slice (some ⟨g,0,none⟩) 1 1]] kF (BytE (okMT m0) b49) (λw' hw=>ex_mtx (rep:=repMT) (ok:=okMT) (enc:=encMT) (wt:=wtMT) monoMT mainTx_w w' [.int .u64 1,.slice (some ⟨g,0,none⟩) 1 1] m0 (m0_at hw (List.mem_append_right _ (List.mem_singleton.2 rfl))) rfl (by decide)) (λv M1 hM=>?_)
 rcases hM with ⟨_,u,rfl,hN⟩ | ⟨h,_⟩
 case inr=>rw [m0_ok] at h; cases h
 have hN0:=hN.byt
 obtain ⟨A,n,cp,rfl,h2,h3,h4,h5⟩:=hN.byt
 obtain rfl:49=n:=by rw [← h2]; exact b49_len.symm
 obtain ⟨gb,ob,rfl,hq⟩:=h5 (by intro e; have q:=b49_len; rw [e] at q; cases q)
 refine sp rfl<|sp rfl<|sp rfl<|sp rfl<|sp rfl ?_
 refine sA ?_
 refine sp rfl ?_
 refine Sy.callN kR 36 #[.slice (some ⟨gb,ob,none⟩) 49 cp] kF (RdE 2 ([Value.int .u64 0]++[Value.slice none 0 0]) repMT (allP rdMT b49)) (λw' hw=>rdx_mtx (rep:=repMT) (p:=rdMT) monoMT (@oneMT) mainTx_r w' _ b49 (hN0.le (rdB_world hw (λb hb=>List.mem_append_right _ hb))) (by rw [b49_len]; decide)) (λv M2 hM=>?_)
 rcases hM with ⟨x,cs,hx,rfl,hcs,hrep⟩ | ⟨h,_⟩
 case inr=>rw [m0_rd] at h; cases h
 rw [m0_rd] at hx
 obtain rfl:m0=x:=by injection hx
 obtain ⟨v2,rfl,_,A2,n2,c2,rfl,k2,k3,k4,k5⟩:=hrep
 obtain rfl:1=n2:=k2
 obtain ⟨g2,o2,rfl,hq2⟩:=k5 (by intro e; cases e)
 obtain ⟨cs0,d1,d2,⟨rfl,_,_⟩,d3⟩:=hq2 0 _ rfl
 refine sp rfl<|sp rfl<|sp rfl ?_
 refine sM 101 #[.int .u64 0,.slice none 0 0] (λg3=>?_)
 refine Sy.permS List.perm_append_comm ?_
 refine sw 0 rfl #[.int .u64 1,.slice (some ⟨g2,o2,none⟩) 1 c2] (wA rfl)<|sp rfl ?_
 refine sA ?_
 refine sP (.agg zOut.toArray) ?_
 refine Sy.callN kR 20 #[.agg zOut.toArray] kF (BytE false []) (λw' hw=>ex_outz (rep:=repOZ) (ok:=λ_=>false) (enc:=λ_=>[]) (wt:=λ_=>1) monoOZ outz_w w' zOut () rfl rfl (by decide)) (λv M3 hM=>?_)
 rcases hM with ⟨h,_⟩ | ⟨_,rfl,rfl⟩
 case inl=>cases h
 rw [List.append_nil]
 refine sp rfl<|sp rfl<|sp rfl<|sp rfl<|sp rfl ?_
 obtain ⟨X,hX⟩:∃ X,X=[(g,98,(Value.int .u64 2::Z32).toArray)]++M1++M2:=⟨_,rfl⟩
 have i1:∀ b∈M1,b∈(g3,101,#[.int .u64 1,.slice (some ⟨g2,o2,none⟩) 1 c2])::([]++[(g,98,(Value.int .u64 2::Z32).toArray)]++M1++M2):=λb hb=>by simp [hb]
 have i2:∀ b∈M2,b∈(g3,101,#[.int .u64 1,.slice (some ⟨g2,o2,none⟩) 1 c2])::([]++[(g,98,(Value.int .u64 2::Z32).toArray)]++M1++M2):=λb hb=>by simp [hb]
 refine sA ?_
 refine sp rfl<|sP (.bool true)<|sp rfl<|sp rfl<|sP (.int .i64 49)<|sP (.bool true)<|sP (.bool true) ?_
 refine sp rfl<|sp rfl<|sS (.pointer (some ⟨gb,ob+7*1,none⟩)) (Quiet.pure (exec_atO 27 _ _ _ (some ⟨gb,ob,none⟩) gb ob 49 cp 7 1 .i64 rfl rfl rfl rfl Tryz.underlying27 kF (by decide)))<|sS (bv 1) (cellC (w0:=Base.of w) (R:=M1) (g:=gb) (f:=ob+7*1) (v:=bv 1) (.inr (hq 7 1 (by kernel_rfl))) i1 rfl Tryz.underlying5)<|sP (.bool true)<|sP (.bool true) ?_
 refine sp rfl<|sp rfl<|sS (.pointer (some ⟨gb,ob+8*1,none⟩)) (Quiet.pure (exec_atO 27 _ _ _ (some ⟨gb,ob,none⟩) gb ob 49 cp 8 1 .i64 rfl rfl rfl rfl Tryz.underlying27 kF (by decide)))<|sS (bv 1) (cellC (w0:=Base.of w) (R:=M1) (g:=gb) (f:=ob+8*1) (v:=bv 1) (.inr (hq 8 1 (by kernel_rfl))) i1 rfl Tryz.underlying5)<|sP (.bool true)<|sP (.bool true) ?_
 refine sp rfl<|sp rfl<|sP (.bool true)<|sP (.bool true) ?_
 refine sp rfl<|sP (.pointer (some ⟨g3,0,none⟩))<|sS (.int .u64 1) (qc 0 0 rfl rfl Tryz.underlying22)<|sP (.bool true)<|sP (.bool true) ?_
 refine sp rfl<|sP (.pointer (some ⟨g3,1,none⟩))<|sS (.slice (some ⟨g2,o2,none⟩) 1 c2) (qc 0 1 rfl rfl Tryz.underlying99)<|sP (.int .i64 1)<|sP (.bool true)<|sP (.bool true) ?_
 refine sp rfl<|sP (.pointer (some ⟨g3,1,none⟩))<|sS (.slice (some ⟨g2,o2,none⟩) 1 c2) (qc 0 1 rfl rfl Tryz.underlying99)<|sS (.pointer (some ⟨g2,o2+0*33,none⟩)) (Quiet.pure (exec_atO 99 _ _ _ (some ⟨g2,o2,none⟩) g2 o2 1 c2 0 33 .i64 rfl rfl rfl rfl Tryz.underlying99 kF (by decide)))<|sP (.pointer (some ⟨g2,o2+0*33,none⟩))<|sS (.int .u64 2) (cellC (w0:=Base.of w) (R:=M2) (g:=g2) (f:=o2+0*33) (v:=.int .u64 2) (.inr d3.one) i2 rfl Tryz.underlying22)<|sP (.bool true)<|sP (.bool true) ?_
 refine sp rfl<|sp rfl<|sP (.bool true)<|sP (.bool true)<|sp rfl ?_
 refine sG<|Sy.ret ?_
 exact rV (.bool true) rfl
end Wr
end
section
namespace Wr
open Go.RowKit Sy
set_option maxRecDepth 100000
set_option maxHeartbeats 4000000
theorem only_of {α:Type} {p:Ps α} {ok:α→Bool} {enc:α→Byt} {dom:α→Prop} {wt:α→Nat} {c:Nat} (hF:Fits p ok enc dom) (hc:∀ x,ok x=true→wt x≤c) (z:α) (hz:wt z≤c) (raw:Byt) (o:Option α) (ho:o=allP p raw):(o.isSome=true→byE (ok (o.getD z)) (enc (o.getD z))=raw)∧wt (o.getD z)≤c:=by
 cases o with
 | none=>exact ⟨λh=>(by cases h),hz⟩
 | some x =>
  obtain ⟨⟨h1,_⟩,h2⟩:=hF.only ho.symm
  refine ⟨λ_=>?_,hc x h1⟩
  show byE (ok x) (enc x)=raw
  rw [h1,h2]; rfl
theorem law_wireonly (w:World) (v:Value) (raw:Byt) (hv:BytR (rdW w) v raw) (hl:raw.length≤1048576) :
  Calls Tryz.prog 5 #[v] w (Gets w (.bool true)):=by
 obtain ⟨o1,ho1⟩:∃ o,o=allP rdTR raw:=⟨_,rfl⟩
 obtain ⟨y1,hy1⟩:∃ y,y=o1.getD zoTR:=⟨_,rfl⟩
 obtain ⟨s1,hs1⟩:∃ s,s=o1.isSome:=⟨_,rfl⟩
 have q1:=only_of (wt:=wtTR) fitTR (λx hx=>capTR hx) zoTR (show wtTR zoTR≤1000000 by decide) raw o1 ho1
 rw [← hs1, ← hy1] at q1
 obtain ⟨b1,hb1⟩:∃ b,b=byE (okTR y1) (encTR y1):=⟨_,rfl⟩
 obtain ⟨e1,he1⟩:∃ e,e=erE (okTR y1):=⟨_,rfl⟩
 rw [← hb1] at q1
 obtain ⟨hB1,hW1⟩:=q1
 obtain ⟨o2,ho2⟩:∃ o,o=allP rdHE raw:=⟨_,rfl⟩
 obtain ⟨y2,hy2⟩:∃ y,y=o2.getD zoHE:=⟨_,rfl⟩
 obtain ⟨s2,hs2⟩:∃ s,s=o2.isSome:=⟨_,rfl⟩
 have q2:=only_of (wt:=wtHE) fitHE (λx hx=>capHE hx) zoHE (show wtHE zoHE≤3000 by decide) raw o2 ho2
 rw [← hs2, ← hy2] at q2
 obtain ⟨b2,hb2⟩:∃ b,b=byE (okHE y2) (encHE y2):=⟨_,rfl⟩
 obtain ⟨e2,he2⟩:∃ e,e=erE (okHE y2):=⟨_,rfl⟩
 rw [← hb2] at q2
 obtain ⟨hB2,hW2⟩:=q2
 obtain ⟨o3,ho3⟩:∃ o,o=allP rdBL raw:=⟨_,rfl⟩
 obtain ⟨y3,hy3⟩:∃ y,y=o3.getD zoBL:=⟨_,rfl⟩
 obtain ⟨s3,hs3⟩:∃ s,s=o3.isSome:=⟨_,rfl⟩
 have q3:=only_of (wt:=wtBL) fitBL (λx hx=>capBL hx) zoBL (show wtBL zoBL≤100000000 by decide) raw o3 ho3
 rw [← hs3, ← hy3] at q3
 obtain ⟨b3,hb3⟩:∃ b,b=byE (okBL y3) (encBL y3):=⟨_,rfl⟩
 obtain ⟨e3,he3⟩:∃ e,e=erE (okBL y3):=⟨_,rfl⟩
 rw [← hb3] at q3
 obtain ⟨hB3,hW3⟩:=q3
 obtain ⟨o4,ho4⟩:∃ o,o=allP rdOU raw:=⟨_,rfl⟩
 obtain ⟨y4,hy4⟩:∃ y,y=o4.getD zoOU:=⟨_,rfl⟩
 obtain ⟨s4,hs4⟩:∃ s,s=o4.isSome:=⟨_,rfl⟩
 have q4:=only_of (wt:=wtOU) fitOU (λx hx=>capOU hx) zoOU (show wtOU zoOU≤20000 by decide) raw o4 ho4
 rw [← hs4, ← hy4] at q4
 obtain ⟨b4,hb4⟩:∃ b,b=byE (okOU y4) (encOU y4):=⟨_,rfl⟩
 obtain ⟨e4,he4⟩:∃ e,e=erE (okOU y4):=⟨_,rfl⟩
 rw [← hb4] at q4
 obtain ⟨hB4,hW4⟩:=q4
 obtain ⟨o5,ho5⟩:∃ o,o=allP rdPA raw:=⟨_,rfl⟩
 obtain ⟨y5,hy5⟩:∃ y,y=o5.getD zoPA:=⟨_,rfl⟩
 obtain ⟨s5,hs5⟩:∃ s,s=o5.isSome:=⟨_,rfl⟩
 have q5:=only_of (wt:=wtPA) fitPA (λx hx=>capPA hx) zoPA (show wtPA zoPA≤1000 by decide) raw o5 ho5
 rw [← hs5, ← hy5] at q5
 obtain ⟨b5,hb5⟩:∃ b,b=byE (okPA y5) (encPA y5):=⟨_,rfl⟩
 obtain ⟨e5,he5⟩:∃ e,e=erE (okPA y5):=⟨_,rfl⟩
 rw [← hb5] at q5
 obtain ⟨hB5,hW5⟩:=q5
 obtain ⟨o6,ho6⟩:∃ o,o=allP rdCF raw:=⟨_,rfl⟩
 obtain ⟨y6,hy6⟩:∃ y,y=o6.getD zoCF:=⟨_,rfl⟩
 obtain ⟨s6,hs6⟩:∃ s,s=o6.isSome:=⟨_,rfl⟩
 have q6:=only_of (wt:=wtCF) fitCF (λx hx=>capCF hx) zoCF (show wtCF zoCF≤100000000 by decide) raw o6 ho6
 rw [← hs6, ← hy6] at q6
 obtain ⟨b6,hb6⟩:∃ b,b=byE (okCF y6) (encCF y6):=⟨_,rfl⟩
 obtain ⟨e6,he6⟩:∃ e,e=erE (okCF y6):=⟨_,rfl⟩
 rw [← hb6] at q6
 obtain ⟨hB6,hW6⟩:=q6
 obtain ⟨o7,ho7⟩:∃ o,o=allP rdMH raw:=⟨_,rfl⟩
 obtain ⟨y7,hy7⟩:∃ y,y=o7.getD zoMH:=⟨_,rfl⟩
 obtain ⟨s7,hs7⟩:∃ s,s=o7.isSome:=⟨_,rfl⟩
 have hB7:s7=true→encMH y7=raw:=λh=>by rw [hs7] at h; have q:=(only_of (wt:=λ_=>0) (c:=0) fitMH (λ_ _=>Nat.le_refl 0) zoMH (Nat.le_refl 0) raw o7 ho7).1 h; rw [hy7]; exact q
 refine Sy.enter (args:=[v]) Tryz.func5 rfl kL ?_
 refine sC ?_
 refine sP (.bool false) ?_
 refine sA ?_
 refine sp rfl ?_
 refine Sy.callN kR 9 #[v] kF (RdE 3 ([Value.int .u64 0]++([Value.slice none 0 0]++([Value.slice none 0 0]))) repTR o1) (λw' hw=>by rw [ho1]; exact rdx_txx (rep:=repTR) (p:=rdTR) monoTR (@oneTR) tx_r w' v raw (hv.le (λg o u hu=>rdC_world (w0:=Base.of w) (R:=[]) hw (λ_ h=>by cases h) g o u (.inl hu))) (by omega)) (λu M1a hM=>?_)
 obtain ⟨cs1,rfl,l1,r1⟩:=hM.uni zoTR (zoTR_rep _) rfl
 rw [← hs1]
 rw [← hy1] at r1
 have la1:cs1.length=3:=l1
 refine sp rfl<|sp rfl<|sp rfl ?_
 refine sM 26 ([Value.int .u64 0]++([Value.slice none 0 0]++([Value.slice none 0 0]))).toArray (λg1=>?_)
 refine Sy.permS List.perm_append_comm ?_
 refine sw 0 rfl cs1.toArray (Writes.row 26 cs1 3 _ _ rfl kR kR kR l1 (by kernel_rfl) (oneTR r1))<|sp rfl ?_
 refine sA ?_
 refine sS (.agg cs1.toArray) (Quiet.mid 0 g1 0 3 26 26 cs1 cs1 _ _ rfl kR rfl Tryz.underlying26 rfl kR (by rw [List.drop_zero,List.take_of_length_le (by omega)]) (by omega)) ?_
 refine Sy.callN kR 7 #[.agg cs1.toArray] kF (BytE (okTR y1) (encTR y1)) (λw' hw=>ex_txx (rep:=repTR) (ok:=okTR) (enc:=encTR) (wt:=wtTR) monoTR tx_w w' cs1 y1 (monoTR (rdB_world hw (λb hb=>by simp [hb])) r1) l1 (by omega)) (λu M1b hM=>?_)
 obtain ⟨u1,rfl,k1⟩:=hM.uni
 rw [← he1]
 rw [← hb1] at k1
 refine sp rfl<|sp rfl<|sp rfl<|sp rfl<|sp rfl ?_
 refine sA ?_
 refine sp rfl ?_
 refine Sy.callN kR 17 #[v] kF (RdE 102 (Z32++([Value.int .u64 0]++([Value.int .u64 0]++(Z32++(Z32++([Value.slice none 0 0]++([Value.bool false]++([Value.int .i64 0]++[Value.slice none 0 0])))))))) repHE o2) (λw' hw=>by rw [ho2]; exact rdx_hdr (rep:=repHE) (p:=rdHE) monoHE (@oneHE) header_r w' v raw (hv.le (λg o u hu=>rdC_world (w0:=Base.of w) (R:=[]) hw (λ_ h=>by cases h) g o u (.inl hu))) (by omega)) (λu M2a hM=>?_)
 obtain ⟨cs2,rfl,l2,r2⟩:=hM.uni zoHE (zoHE_rep _) rfl
 rw [← hs2]
 rw [← hy2] at r2
 have la2:cs2.length=102:=l2
 refine sp rfl<|sp rfl<|sp rfl ?_
 refine sM 42 (Z32++([Value.int .u64 0]++([Value.int .u64 0]++(Z32++(Z32++([Value.slice none 0 0]++([Value.bool false]++([Value.int .i64 0]++[Value.slice none 0 0])))))))).toArray (λg2=>?_)
 refine Sy.permS List.perm_append_comm ?_
 refine sw 0 rfl cs2.toArray (Writes.row 42 cs2 102 _ _ rfl kR kR kR l2 (by kernel_rfl) (oneHE r2))<|sp rfl ?_
 refine sA ?_
 refine sS (.agg cs2.toArray) (Quiet.mid 0 g2 0 102 42 42 cs2 cs2 _ _ rfl kR rfl Tryz.underlying42 rfl kR (by rw [List.drop_zero,List.take_of_length_le (by omega)]) (by omega)) ?_
 refine Sy.callN kR 18 #[.agg cs2.toArray] kF (BytE (okHE y2) (encHE y2)) (λw' hw=>ex_hdr (rep:=repHE) (ok:=okHE) (enc:=encHE) (wt:=wtHE) monoHE header_w w' cs2 y2 (monoHE (rdB_world hw (λb hb=>by simp [hb])) r2) l2 (by omega)) (λu M2b hM=>?_)
 obtain ⟨u2,rfl,k2⟩:=hM.uni
 rw [← he2]
 rw [← hb2] at k2
 refine sp rfl<|sp rfl<|sp rfl<|sp rfl<|sp rfl ?_
 refine sA ?_
 refine sp rfl ?_
 refine Sy.callN kR 15 #[v] kF (RdE 104 ((Z32++([Value.int .u64 0]++([Value.int .u64 0]++(Z32++(Z32++([Value.slice none 0 0]++([Value.bool false]++([Value.int .i64 0]++[Value.slice none 0 0]))))))))++([Value.slice none 0 0]++([Value.slice none 0 0]))) repBL o3) (λw' hw=>by rw [ho3]; exact rdx_blk (rep:=repBL) (p:=rdBL) monoBL (@oneBL) block_r w' v raw (hv.le (λg o u hu=>rdC_world (w0:=Base.of w) (R:=[]) hw (λ_ h=>by cases h) g o u (.inl hu))) (by omega)) (λu M3a hM=>?_)
 obtain ⟨cs3,rfl,l3,r3⟩:=hM.uni zoBL (zoBL_rep _) rfl
 rw [← hs3]
 rw [← hy3] at r3
 have la3:cs3.length=104:=l3
 refine sp rfl<|sp rfl<|sp rfl ?_
 refine sM 46 ((Z32++([Value.int .u64 0]++([Value.int .u64 0]++(Z32++(Z32++([Value.slice none 0 0]++([Value.bool false]++([Value.int .i64 0]++[Value.slice none 0 0]))))))))++([Value.slice none 0 0]++([Value.slice none 0 0]))).toArray (λg3=>?_)
 refine Sy.permS List.perm_append_comm ?_
 refine sw 0 rfl cs3.toArray (Writes.row 46 cs3 104 _ _ rfl kR kR kR l3 (by kernel_rfl) (oneBL r3))<|sp rfl ?_
 refine sA ?_
 refine sS (.agg cs3.toArray) (Quiet.mid 0 g3 0 104 46 46 cs3 cs3 _ _ rfl kR rfl Tryz.underlying46 rfl kR (by rw [List.drop_zero,List.take_of_length_le (by omega)]) (by omega)) ?_
 refine Sy.callN kR 13 #[.agg cs3.toArray] kF (BytE (okBL y3) (encBL y3)) (λw' hw=>ex_blk (rep:=repBL) (ok:=okBL) (enc:=encBL) (wt:=wtBL) monoBL block_w w' cs3 y3 (monoBL (rdB_world hw (λb hb=>by simp [hb])) r3) l3 (by omega)) (λu M3b hM=>?_)
 obtain ⟨u3,rfl,k3⟩:=hM.uni
 rw [← he3]
 rw [← hb3] at k3
 refine sp rfl<|sp rfl<|sp rfl<|sp rfl<|sp rfl ?_
 refine sA ?_
 refine sp rfl ?_
 refine Sy.callN kR 19 #[v] kF (RdE 58 ([Value.int .i64 0]++(([Value.bool false]++(Z32++lPT ⟨0,0,false⟩))++(([Value.bool false]++([Value.int .u64 0]++lPT ⟨0,0,false⟩))++([Value.slice none 0 0]++([Value.slice none 0 0]++([Value.slice none 0 0]++([Value.slice none 0 0]))))))) repOU o4) (λw' hw=>by rw [ho4]; exact rdx_out (rep:=repOU) (p:=rdOU) monoOU (@oneOU) out_r w' v raw (hv.le (λg o u hu=>rdC_world (w0:=Base.of w) (R:=[]) hw (λ_ h=>by cases h) g o u (.inl hu))) (by omega)) (λu M4a hM=>?_)
 obtain ⟨cs4,rfl,l4,r4⟩:=hM.uni zoOU (zoOU_rep _) rfl
 rw [← hs4]
 rw [← hy4] at r4
 have la4:cs4.length=58:=l4
 refine sp rfl<|sp rfl<|sp rfl ?_
 refine sM 63 ([Value.int .i64 0]++(([Value.bool false]++(Z32++lPT ⟨0,0,false⟩))++(([Value.bool false]++([Value.int .u64 0]++lPT ⟨0,0,false⟩))++([Value.slice none 0 0]++([Value.slice none 0 0]++([Value.slice none 0 0]++([Value.slice none 0 0]))))))).toArray (λg4=>?_)
 refine Sy.permS List.perm_append_comm ?_
 refine sw 0 rfl cs4.toArray (Writes.row 63 cs4 58 _ _ rfl kR kR kR l4 (by kernel_rfl) (oneOU r4))<|sp rfl ?_
 refine sA ?_
 refine sS (.agg cs4.toArray) (Quiet.mid 0 g4 0 58 63 63 cs4 cs4 _ _ rfl kR rfl Tryz.underlying63 rfl kR (by rw [List.drop_zero,List.take_of_length_le (by omega)]) (by omega)) ?_
 refine Sy.callN kR 20 #[.agg cs4.toArray] kF (BytE (okOU y4) (encOU y4)) (λw' hw=>ex_out (rep:=repOU) (ok:=okOU) (enc:=encOU) (wt:=wtOU) monoOU out_w w' cs4 y4 (monoOU (rdB_world hw (λb hb=>by simp [hb])) r4) l4 (by omega)) (λu M4b hM=>?_)
 obtain ⟨u4,rfl,k4⟩:=hM.uni
 rw [← he4]
 rw [← hb4] at k4
 refine sp rfl<|sp rfl<|sp rfl<|sp rfl<|sp rfl ?_
 refine sG<|Sy.seq ?_
 refine cutC [(0,v)] [] ?_ ?_
 ·refine sC ?_
  refine cutS (m:=?m1) [(0,v),(8,.int .i64 (erE s2)),(9,u2),(12,.int .i64 (erE s3)),(13,u3),(16,.int .i64 (erE s4)),(17,u4),(77,.bool false)] ?h1 (λK=>?k1)
  case k1 =>
   cases s1
   ·refine sp rfl<|sP (.bool false)<|sp rfl<|sN<|sN<|sN<|sN<|sP (.bool false)<|sp rfl ?_
    exact K _ (all_cons kR (all_cons kR (all_cons kR (all_cons kR (all_cons kR (all_cons kR (all_cons kR (all_cons kR all_nil))))))))
   ·refine sp rfl<|sP (.bool true)<|sp rfl<|sp rfl<|sp rfl<|sS (.bool true) (qg (λw' hw=>by have q:=same_any w' u1 v b1 raw (k1.le (rdB_world hw (λb hb=>by simp [hb]))) (hv.le (λg o u hu=>rdC_world (w0:=Base.of w) (R:=[]) hw (λ_ h=>by cases h) g o u (.inl hu))); rw [decide_eq_true (hB1 rfl)] at q; exact q))<|sP (.bool false)<|sP (.bool false)<|sp rfl ?_
    exact K _ (all_cons kR (all_cons kR (all_cons kR (all_cons kR (all_cons kR (all_cons kR (all_cons kR (all_cons kR all_nil))))))))
  refine cutS (m:=?m2) [(0,v),(12,.int .i64 (erE s3)),(13,u3),(16,.int .i64 (erE s4)),(17,u4),(87,.bool false)] ?h2 (λK=>?k2)
  case k2 =>
   cases s2
   ·refine sp rfl<|sP (.bool false)<|sp rfl<|sN<|sN<|sN<|sN<|sP (.bool false)<|sP (.bool false)<|sp rfl ?_
    exact K _ (all_cons kR (all_cons kR (all_cons kR (all_cons kR (all_cons kR (all_cons kR all_nil))))))
   ·refine sp rfl<|sP (.bool true)<|sp rfl<|sp rfl<|sp rfl<|sS (.bool true) (qg (λw' hw=>by have q:=same_any w' u2 v b2 raw (k2.le (rdB_world hw (λb hb=>by simp [hb]))) (hv.le (λg o u hu=>rdC_world (w0:=Base.of w) (R:=[]) hw (λ_ h=>by cases h) g o u (.inl hu))); rw [decide_eq_true (hB2 rfl)] at q; exact q))<|sP (.bool false)<|sP (.bool false)<|sP (.bool false)<|sp rfl ?_
    exact K _ (all_cons kR (all_cons kR (all_cons kR (all_cons kR (all_cons kR (all_cons kR all_nil))))))
  refine cutS (m:=?m3) [(0,v),(16,.int .i64 (erE s4)),(17,u4),(97,.bool false)] ?h3 (λK=>?k3)
  case k3 =>
   cases s3
   ·refine sp rfl<|sP (.bool false)<|sp rfl<|sN<|sN<|sN<|sN<|sP (.bool false)<|sP (.bool false)<|sp rfl ?_
    exact K _ (all_cons kR (all_cons kR (all_cons kR (all_cons kR all_nil))))
   ·refine sp rfl<|sP (.bool true)<|sp rfl<|sp rfl<|sp rfl<|sS (.bool true) (qg (λw' hw=>by have q:=same_any w' u3 v b3 raw (k3.le (rdB_world hw (λb hb=>by simp [hb]))) (hv.le (λg o u hu=>rdC_world (w0:=Base.of w) (R:=[]) hw (λ_ h=>by cases h) g o u (.inl hu))); rw [decide_eq_true (hB3 rfl)] at q; exact q))<|sP (.bool false)<|sP (.bool false)<|sP (.bool false)<|sp rfl ?_
    exact K _ (all_cons kR (all_cons kR (all_cons kR (all_cons kR all_nil))))
  cases s4
  ·refine sp rfl<|sP (.bool false)<|sp rfl<|sN<|sN<|sN<|sN<|sP (.bool false)<|sP (.bool false) ?_
   refine sG<|sU<|Sy.skip ?_
   exact meet (all_cons kR all_nil) (λ_ h=>h.none)
  ·refine sp rfl<|sP (.bool true)<|sp rfl<|sp rfl<|sp rfl<|sS (.bool true) (qg (λw' hw=>by have q:=same_any w' u4 v b4 raw (k4.le (rdB_world hw (λb hb=>by simp [hb]))) (hv.le (λg o u hu=>rdC_world (w0:=Base.of w) (R:=[]) hw (λ_ h=>by cases h) g o u (.inl hu))); rw [decide_eq_true (hB4 rfl)] at q; exact q))<|sP (.bool false)<|sP (.bool false)<|sP (.bool false) ?_
   refine sG<|sU<|Sy.skip ?_
   exact meet (all_cons kR all_nil) (λ_ h=>h.none)
 clear hB1 hB2 hB3 hB4
 refine sB ?_
 refine sp rfl ?_
 refine Sy.callN kR 21 #[v] kF (RdE 2 ([Value.int .i64 0]++[Value.slice none 0 0]) repPA o5) (λw' hw=>by rw [ho5]; exact rdx_par (rep:=repPA) (p:=rdPA) monoPA (@onePA) params_r w' v raw (hv.le (λg o u hu=>rdC_world (w0:=Base.of w) (R:=[]) hw (λ_ h=>by cases h) g o u (.inl hu))) (by omega)) (λu M5a hM=>?_)
 obtain ⟨cs5,rfl,l5,r5⟩:=hM.uni zoPA (zoPA_rep _) rfl
 rw [← hs5]
 rw [← hy5] at r5
 have la5:cs5.length=2:=l5
 refine sp rfl<|sp rfl<|sp rfl ?_
 refine sM 40 ([Value.int .i64 0]++[Value.slice none 0 0]).toArray (λg5=>?_)
 refine Sy.permS List.perm_append_comm ?_
 refine sw 0 rfl cs5.toArray (Writes.row 40 cs5 2 _ _ rfl kR kR kR l5 (by kernel_rfl) (onePA r5))<|sp rfl ?_
 refine sA ?_
 refine sS (.agg cs5.toArray) (Quiet.mid 0 g5 0 2 40 40 cs5 cs5 _ _ rfl kR rfl Tryz.underlying40 rfl kR (by rw [List.drop_zero,List.take_of_length_le (by omega)]) (by omega)) ?_
 refine Sy.callN kR 22 #[.agg cs5.toArray] kF (BytE (okPA y5) (encPA y5)) (λw' hw=>ex_par (rep:=repPA) (ok:=okPA) (enc:=encPA) (wt:=wtPA) monoPA params_w w' cs5 y5 (monoPA (rdB_world hw (λb hb=>by simp [hb])) r5) l5 (by omega)) (λu M5b hM=>?_)
 obtain ⟨u5,rfl,k5⟩:=hM.uni
 rw [← he5]
 rw [← hb5] at k5
 refine sp rfl<|sp rfl<|sp rfl<|sp rfl<|sp rfl ?_
 refine sA ?_
 refine sp rfl ?_
 refine Sy.callN kR 23 #[v] kF (RdE 102 (Z32++([Value.int .u64 0]++(([Value.int .i64 0]++[Value.slice none 0 0])++((Z32++(Z32++([Value.int .u64 0]++[Value.int .u64 0])))++([Value.slice none 0 0]))))) repCF o6) (λw' hw=>by rw [ho6]; exact rdx_cfg (rep:=repCF) (p:=rdCF) monoCF (@oneCF) config_r w' v raw (hv.le (λg o u hu=>rdC_world (w0:=Base.of w) (R:=[]) hw (λ_ h=>by cases h) g o u (.inl hu))) (by omega)) (λu M6a hM=>?_)
 obtain ⟨cs6,rfl,l6,r6⟩:=hM.uni zoCF (zoCF_rep _) rfl
 rw [← hs6]
 rw [← hy6] at r6
 have la6:cs6.length=102:=l6
 refine sp rfl<|sp rfl<|sp rfl ?_
 refine sM 73 (Z32++([Value.int .u64 0]++(([Value.int .i64 0]++[Value.slice none 0 0])++((Z32++(Z32++([Value.int .u64 0]++[Value.int .u64 0])))++([Value.slice none 0 0]))))).toArray (λg6=>?_)
 refine Sy.permS List.perm_append_comm ?_
 refine sw 0 rfl cs6.toArray (Writes.row 73 cs6 102 _ _ rfl kR kR kR l6 (by kernel_rfl) (oneCF r6))<|sp rfl ?_
 refine sA ?_
 refine sS (.agg cs6.toArray) (Quiet.mid 0 g6 0 102 73 73 cs6 cs6 _ _ rfl kR rfl Tryz.underlying73 rfl kR (by rw [List.drop_zero,List.take_of_length_le (by omega)]) (by omega)) ?_
 refine Sy.callN kR 24 #[.agg cs6.toArray] kF (BytE (okCF y6) (encCF y6)) (λw' hw=>ex_cfg (rep:=repCF) (ok:=okCF) (enc:=encCF) (wt:=wtCF) monoCF config_w w' cs6 y6 (monoCF (rdB_world hw (λb hb=>by simp [hb])) r6) l6 (by omega)) (λu M6b hM=>?_)
 obtain ⟨u6,rfl,k6⟩:=hM.uni
 rw [← he6]
 rw [← hb6] at k6
 refine sp rfl<|sp rfl<|sp rfl<|sp rfl<|sp rfl ?_
 refine sA ?_
 refine sp rfl ?_
 refine Sy.callN kR 25 #[v] kF (RdE 66 (Z32++(Z32++([Value.int .u64 0]++[Value.int .u64 0]))) repMH o7) (λw' hw=>by rw [ho7]; exact rdx_mhd (rep:=repMH) (p:=rdMH) monoMH (@oneMH) mainHeader_r w' v raw (hv.le (λg o u hu=>rdC_world (w0:=Base.of w) (R:=[]) hw (λ_ h=>by cases h) g o u (.inl hu))) (by omega)) (λu M7a hM=>?_)
 obtain ⟨cs7,rfl,l7,r7⟩:=hM.uni zoMH (zoMH_rep _) rfl
 rw [← hs7]
 rw [← hy7] at r7
 have la7:cs7.length=66:=l7
 refine sp rfl<|sp rfl<|sp rfl ?_
 refine sM 71 (Z32++(Z32++([Value.int .u64 0]++[Value.int .u64 0]))).toArray (λg7=>?_)
 refine Sy.permS List.perm_append_comm ?_
 refine sw 0 rfl cs7.toArray (Writes.row 71 cs7 66 _ _ rfl kR kR kR l7 (by kernel_rfl) (oneMH r7))<|sp rfl ?_
 refine sA ?_
 refine sS (.bool true) (qg (λw' hw=>alive12 w')) ?_
 refine cutS (m:=?n5) [(0,v),(24,.int .i64 (erE s6)),(25,u6),(27,ptr g7),(28,.int .i64 (erE s7)),(142,.bool true)] ?g5 (λK=>?j5)
 case j5 =>
  cases s5
  ·refine sp rfl<|sp rfl<|sP (.bool true)<|sp rfl<|sN<|sN<|sN<|sP (.bool true)<|sP (.bool true)<|sp rfl ?_
   exact K _ (all_cons kR (all_cons kR (all_cons kR (all_cons kR (all_cons kR (all_cons kR all_nil))))))
  ·refine sp rfl<|sp rfl<|sP (.bool false)<|sp rfl<|sp rfl<|sp rfl<|sS (.bool true) (qg (λw' hw=>by have q:=same_any w' u5 v b5 raw (k5.le (rdB_world hw (λb hb=>by simp [hb]))) (hv.le (λg o u hu=>rdC_world (w0:=Base.of w) (R:=[]) hw (λ_ h=>by cases h) g o u (.inl hu))); rw [decide_eq_true (hB5 rfl)] at q; exact q))<|sP (.bool true)<|sP (.bool true)<|sp rfl ?_
   exact K _ (all_cons kR (all_cons kR (all_cons kR (all_cons kR (all_cons kR (all_cons kR all_nil))))))
 refine cutS (m:=?n6) [(0,v),(27,ptr g7),(28,.int .i64 (erE s7)),(151,.bool true)] ?g6 (λK=>?j6)
 case j6 =>
  cases s6
  ·refine sp rfl<|sP (.bool true)<|sp rfl<|sN<|sN<|sN<|sP (.bool true)<|sP (.bool true)<|sp rfl ?_
   exact K _ (all_cons kR (all_cons kR (all_cons kR (all_cons kR all_nil))))
  ·refine sp rfl<|sP (.bool false)<|sp rfl<|sp rfl<|sp rfl<|sS (.bool true) (qg (λw' hw=>by have q:=same_any w' u6 v b6 raw (k6.le (rdB_world hw (λb hb=>by simp [hb]))) (hv.le (λg o u hu=>rdC_world (w0:=Base.of w) (R:=[]) hw (λ_ h=>by cases h) g o u (.inl hu))); rw [decide_eq_true (hB6 rfl)] at q; exact q))<|sP (.bool true)<|sP (.bool true)<|sp rfl ?_
   exact K _ (all_cons kR (all_cons kR (all_cons kR (all_cons kR all_nil))))
 cases s7
 ·refine sp rfl<|sP (.bool true)<|sp rfl<|sN<|sN<|sN<|sN<|sP (.bool true)<|sP (.bool true)<|sp rfl ?_
  refine sG<|Sy.ret ?_
  exact rV (.bool true) rfl
 ·refine sp rfl<|sP (.bool false)<|sp rfl<|sS (.agg cs7.toArray) (Quiet.mid 0 g7 0 66 71 71 cs7 cs7 _ _ rfl kR rfl Tryz.underlying71 rfl kR (by rw [List.drop_zero,List.take_of_length_le (by omega)]) (by omega)) ?_
  refine Sy.callN kR 26 #[.agg cs7.toArray] kF (ByN (encMH y7)) (λw' hw=>ex_mhd (rep:=repMH) (ok:=λ_=>true) (enc:=encMH) (wt:=λ_=>80) monoMH mainHeader_w w' cs7 y7 (monoMH (rdB_world hw (λb hb=>by simp [hb])) r7) l7 rfl (by decide)) (λu7 M7b hM=>?_)
  have k7:=hM.byt
  refine sp rfl<|sS (.bool true) (qg (λw' hw=>by have q:=same_any w' u7 v (encMH y7) raw (k7.le (rdB_world hw (λb hb=>by simp [hb]))) (hv.le (λg o u hu=>rdC_world (w0:=Base.of w) (R:=[]) hw (λ_ h=>by cases h) g o u (.inl hu))); rw [decide_eq_true (hB7 rfl)] at q; exact q))<|sP (.bool true)<|sP (.bool true)<|sp rfl ?_
  refine sG<|Sy.ret ?_
  exact rV (.bool true) rfl
end Wr
end
end Go.Proofs.YtdbcombmmnihbaaGreat
