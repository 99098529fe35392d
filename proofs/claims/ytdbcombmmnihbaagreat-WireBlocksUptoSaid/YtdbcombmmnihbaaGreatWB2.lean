/-
  Texts of ours, put together: FeRow, FeProd, FeOps, FeMul2, FeNum, FePow, FeRuns, FeEq, FeSqrt, FeInv, Crv, NumEq, Pnt, ZzK, CrvA, CrvB, RefNum, RefMinus, RowZ.
-/
import Derived.Test.YtdbcombmmnihbaaGreatWB1
set_option linter.unusedVariables false
set_option linter.unusedSimpArgs false
set_option maxRecDepth 100000
set_option maxHeartbeats 80000000
namespace Go.Proofs.YtdbcombmmnihbaaGreat
section
section
open Go.RowKit Go.Lib
theorem BV {n:Nat} {a b c d:Int} (h:fv n=.agg #[.int .u64 a,.int .u64 b,.int .u64 c,.int .u64 d]):fcs n=#[.int .u64 a,.int .u64 b,.int .u64 c,.int .u64 d]:=by
 rw [AS] at h
 injection h
theorem Jn {v1 v3:Value} (w:World) (x m c lo hi:Nat) (h1:fv x=v1) (h3:fv c=v3) (hx:x<(2^256)) (hm:m<18446744073709551616) (hc:c<(2^256)) (hlo:lo<18446744073709551616) (he:lo+18446744073709551616*hi=x*m+c) :
  Calls Tryz.prog 279 #[v1,.int .u64 (m:Int),v3] w λe w'=>e=.returned (.tuple #[.int .u64 (lo:Int),fv hi])∧Below w.heap.size w w':=by
 subst h1 h3
 obtain ⟨x0,x1,x2,x3,fx⟩:=Ae x hx
 obtain ⟨c0,c1,c2,c3,fc⟩:=Ae c hc
 obtain ⟨s,t,hs,hst,ht⟩:∃ s t:Nat,s<(2^256)∧s+(2^256)*t=x*m∧t+1<18446744073709551616:=by
  have h:x*m≤115792089237316195423570985008687907853269984665640564039457584007913129639935*18446744073709551615:=Nat.mul_le_mul om om
  exact ⟨x*m%(2^256),x*m / (2^256),by omega,by omega,by omega⟩
 obtain ⟨u,k,hu,hk,huk⟩:∃ u k:Nat,u<(2^256)∧k≤1∧u+(2^256)*k=s+c:=⟨(s+c)%(2^256),(s+c) / (2^256),by omega,by omega,by omega⟩
 obtain ⟨u0,u1,u2,u3,d0,d1,d2,d3,eu,fu⟩:=Ah u hu
 obtain ⟨t1,ht1⟩:=xE (t+k)
 obtain rfl:u0=lo:=om
 have hhi:u1+18446744073709551616*u2+340282366920938463463374607431768211456*u3+6277101735386680763835789423207666416102355444464034512896*t1=hi:=om
 have fh:=Cw u1 u2 u3 t1 d1 d2 d3 om
 rw [hhi] at fh
 have ct:=λw=>KS (v:=fv x) w x m s t J hx hm hs hst
 have cp:=λw=>Jw (v1:=fv s) (v2:=fv c) w s c u k J J hs hc hu huk
 have hadd:(t:Int)+(k:Int)=(t1:Int):=om
 have ht1':t1<18446744073709551616:=om
 have FX:=Lib.hid fx
 have FC:=Lib.hid fc
 have FU:=Lib.hid fu
 have FH:=Lib.hid fh
 have ct':∀ w,Calls Tryz.prog 259 #[.agg #[.int .u64 x0,.int .u64 x1,.int .u64 x2,.int .u64 x3],.int .u64 (m:Int)] w λe w'=>e=.returned (.tuple #[fv s,.int .u64 (t:Int)])∧Below w.heap.size w w':=by
  intro w; rw [← fx]; exact ct w
 rw [fx,fc]
 clear fx fc fu fh hx hc hm hs hst ht hu hk huk d0 d1 d2 d3 eu ht1 hhi he ct hlo
 go_enter Tryz.func279,Tryz.ntmps279
 go_wp2_with fail
 refine (ct' _).mono ?_
 rintro e w1 ⟨rfl,hb⟩
 have BC:Blk w1 (w.heap.size+1) 401 _:=Gr.blk hb (Blk.alloc (Ab w _ _ _) _)
 have BR:Blk w1 (w.heap.size+2) 401 _:=Gr.blk hb (Ay w _ _ _ _)
 have hB:Below w.heap.size w w1:=Below.gr (AY w _ _ _) hb
 have hsz:w.heap.size+3≤w1.heap.size:=by have:=hb.size; simp at this; omega
 clear hb ct'
 go_wp2_with (first | ((with_reducible refine AG ?_); refine AB J _ _ _ J w1.heap.size (fcs s) J J _ _ (Blk.new w1 _ _) kZ (by rfl) (AM _) ?_; intro w2 hL2 hB2 hK2; have BR':=hK2 _ om _ _ (BR.alloc _); have BC':=hK2 _ om _ _ (BC.alloc _)) | ((with_reducible refine AF (d:=some 18) ?_); refine AC J _ _ J w1.heap.size rfl s _ _ _ hL2 (AS s) Bh J kZ ?_) | ((with_reducible refine AF (d:=some 19) ?_); refine AC J _ _ J (w.heap.size+1) rfl c _ _ _ BC' FC.out Bh J kZ ?_))
 have BR2:=BR'
 have BC2:=BC'
 refine (cp _).mono ?_
 rintro e w3 ⟨rfl,hb⟩
 have BR3:Blk w3 (w.heap.size+2) 401 _:=Gr.blk hb BR2
 have BT3:Blk w3 w1.heap.size 401 _:=Gr.blk hb hL2
 have hB3:Below w.heap.size w w3:=Below.gr ((hB.alloc om _).trans (hB2 _ om)) hb
 clear hb cp
 go_wp2_with ((with_reducible refine AG ?_); refine AB J _ _ _ J w1.heap.size (fcs u) J J _ _ BT3 kZ (by rfl) (AM _) ?_; intro w5 hL5 hB5 hK5; have BR5:=hK5 _ om _ _ BR3)
 have BT5:Blk w5 w1.heap.size 401 _:=hL5.eq_ (BV FU.out)
 have lT:=BT5.lt
 have q0:w5.cell? ⟨w1.heap.size,0,none⟩=some (.int .u64 (u0:Int)):=BT5.cell 0
 have q1:w5.cell? ⟨w1.heap.size,1,none⟩=some (.int .u64 (u1:Int)):=BT5.cell 1
 have q2:w5.cell? ⟨w1.heap.size,2,none⟩=some (.int .u64 (u2:Int)):=BT5.cell 2
 have q3:w5.cell? ⟨w1.heap.size,3,none⟩=some (.int .u64 (u3:Int)):=BT5.cell 3
 have hw1:=M64.wrapN t1 ht1'
 refine AP (λj=>j == 13) kZ ?_
 try simp only [Act.put]
 refine tk 0 J ?_
 try simp only [aPS]
 refine tkw 1 J (YieldsG.pure (v:=.int .u64 (u0:Int)) (by rfl) (λw9 h9=>by have hz:=(Below.cell (p:=⟨w1.heap.size,0,none⟩) h9 lT).trans q0; go_simp; first | done | simp [hz])) ?_
 try simp only [aPS]
 refine tk 2 J ?_
 try simp only [aPS]
 refine tkw 3 J (YieldsG.pure (v:=.int .u64 (u1:Int)) (by rfl) (λw9 h9=>by have hz:=(Below.cell (p:=⟨w1.heap.size,1,none⟩) h9 lT).trans q1; go_simp; first | done | simp [hz])) ?_
 try simp only [aPS]
 refine tk 4 J ?_
 try simp only [aPS]
 refine tkw 5 J (YieldsG.pure (v:=.int .u64 (u2:Int)) (by rfl) (λw9 h9=>by have hz:=(Below.cell (p:=⟨w1.heap.size,2,none⟩) h9 lT).trans q2; go_simp; first | done | simp [hz])) ?_
 try simp only [aPS]
 refine tk 6 J ?_
 try simp only [aPS]
 refine tkw 7 J (YieldsG.pure (v:=.int .u64 (u3:Int)) (by rfl) (λw9 h9=>by have hz:=(Below.cell (p:=⟨w1.heap.size,3,none⟩) h9 lT).trans q3; go_simp; first | done | simp [hz])) ?_
 try simp only [aPS]
 refine tk 8 J ?_
 try simp only [aPS]
 refine tk 9 J ?_
 try simp only [aPS]
 refine tkw 10 J (YieldsG.pure (v:=.int .u64 (t1:Int)) (by rfl) (λw9 h9=>by go_simp; first | done | simp [hw1])) ?_
 try simp only [aPS]
 refine tk 11 J ?_
 try simp only [aPS]
 refine tk 12 J ?_
 try simp only [aPS]
 refine CE 13 J kZ (by rfl) _ _ _ J (w.heap.size+2) (#[.int .u64 u1,.int .u64 u2,.int .u64 u3,.int .u64 t1]) J J _ _ BR5 kZ (by rfl) (by simp [Value.oneCell']) J (λw6 h6 w7 hB7 hL7=>?_)
 try simp only [Act.put]
 refine AO kZ (λw8 h8=>?_)
 have hfin:=Gr.blk h8 hL7
 have hb9:=(hB3.trans (hB5 _ om)).trans ((Below.mono h6 (by have:=hB3.size; have:=(hB5 0 om).size; omega)).trans ((hB7 _ om).trans (Below.mono h8 (by have:=hL7.lt; omega))))
 go_wp2
 exact bodyPost_ret (Jo J _ _ (w.heap.size+2) _ _ _ _ J hfin J Bh J kZ) rfl ⟨by rw [FH.out]; rfl,hb9⟩
end
end
section
section
open Go.RowKit Go.Lib
def PM (w:World) (g h:Nat) (a b c d p q r s:Value):World:=((((((((w.setCell ⟨g,0,none⟩ a).setCell ⟨g,1,none⟩ b).setCell ⟨g,2,none⟩ c).setCell ⟨g,3,none⟩ d).setCell ⟨h,0,none⟩ p).setCell ⟨h,1,none⟩ q).setCell ⟨h,2,none⟩ r).setCell ⟨h,3,none⟩ s).drew
theorem Rq {w:World} {g h:Nat} {t t':TypeId} {a b c d p q r s:Value} (k:Blk w g t #[a,b,c,d]) (_:Blk w h t' #[p,q,r,s]) (n:g≠h):Blk (PM w g h a b c d p q r s) g t #[a,b,c,d] :=
 ((((((((k.set_ 0 a).set_ 1 b).set_ 2 c).set_ 3 d).far n p).far n q).far n r).far n s).drew
theorem PL {w:World} {g h:Nat} {t t':TypeId} {a b c d p q r s:Value} (_:Blk w g t #[a,b,c,d]) (k:Blk w h t' #[p,q,r,s]) (n:g≠h):Blk (PM w g h a b c d p q r s) h t' #[p,q,r,s] :=
 ((((((((k.far (Ne.symm n) a).far (Ne.symm n) b).far (Ne.symm n) c).far (Ne.symm n) d).set_ 0 p).set_ 1 q).set_ 2 r).set_ 3 s).drew
theorem OC {B:Nat} {v w:World} {g h:Nat} {a b c d p q r s:Value} (k:Below B v w) (hg:B≤g) (hh:B≤h):Below B v (PM w g h a b c d p q r s) :=
 ((((((((k.setCell hg a).setCell hg b).setCell hg c).setCell hg d).setCell hh p).setCell hh q).setCell hh r).setCell hh s).drew
theorem Jm (x m c:Nat) (hx:x<(2^256)) (hm:m<18446744073709551616) (hc:c<(2^256)):∃ lo hi:Nat,lo<18446744073709551616∧hi<(2^256)∧lo+18446744073709551616*hi=x*m+c:=by
 have h:x*m≤115792089237316195423570985008687907853269984665640564039457584007913129639935*18446744073709551615:=Nat.mul_le_mul om om
 exact ⟨(x*m+c)%18446744073709551616,(x*m+c) / 18446744073709551616,by omega,by omega,by omega⟩
theorem Lq {v1 v2:Value} (w:World) (x y lo hi:Nat) (h1:fv x=v1) (h2:fv y=v2) (hx:x<(2^256)) (hy:y<(2^256)) (hlo:lo<(2^256)) (he:lo+(2^256)*hi=x*y) :
  Calls Tryz.prog 258 #[v1,v2] w λe w'=>e=.returned (.tuple #[fv lo,fv hi])∧Below w.heap.size w w':=by
 subst h1 h2
 obtain ⟨x0,x1,x2,x3,fx⟩:=Ae x hx
 obtain ⟨y0,y1,y2,y3,b0,b1,b2,b3,ey,fy⟩:=Ah y hy
 obtain ⟨l0,g1,m0,n1,e0⟩:=Jm x y0 0 hx b0 om
 obtain ⟨l1,g2,m1,n2,e1⟩:=Jm x y1 g1 hx b1 n1
 obtain ⟨l2,g3,m2,n3,e2⟩:=Jm x y2 g2 hx b2 n2
 obtain ⟨l3,g4,m3,n4,e3⟩:=Jm x y3 g3 hx b3 n3
 have em:x*y=x*y0+18446744073709551616*(x*y1)+340282366920938463463374607431768211456*(x*y2)+6277101735386680763835789423207666416102355444464034512896*(x*y3):=by rw [ey,TE]
 have hL:l0+18446744073709551616*l1+340282366920938463463374607431768211456*l2+6277101735386680763835789423207666416102355444464034512896*l3=lo:=om
 obtain rfl:g4=hi:=om
 have fl:=Cw l0 l1 l2 l3 m0 m1 m2 m3
 rw [hL] at fl
 obtain ⟨z0,z1,z2,z3,fg⟩:=Ae g4 n4
 have FG:=Lib.hid fg
 clear fg
 have FX:=Lib.hid fx
 have FL:=Lib.hid fl
 have r0:=λw=>Jn w x y0 0 l0 g1 fx J hx b0 om m0 e0
 have r1:=λw=>Jn (v1:=fv x) (v3:=fv g1) w x y1 g1 l1 g2 J J hx b1 n1 m1 e1
 have r2:=λw=>Jn (v1:=fv x) (v3:=fv g2) w x y2 g2 l2 g3 J J hx b2 n2 m2 e2
 have r3:=λw=>Jn (v1:=fv x) (v3:=fv g3) w x y3 g3 l3 g4 J J hx b3 n3 m3 e3
 rw [Vt] at r0
 rw [fx,fy]
 clear fx fy fl hx hy hlo he b0 b1 b2 b3 ey m0 m1 m2 m3 n1 n2 n3 n4 e0 e1 e2 e3 em hL
 go_enter Tryz.func258,Tryz.ntmps258
 go_wp2_with fail
 refine (r0 _).mono ?_
 rintro e w1 ⟨rfl,hb⟩
 have BX:Blk w1 w.heap.size 401 _:=Gr.blk hb (Blk.alloc (Blk.alloc (Blk.alloc (Blk.new w _ _) _) _) _)
 have BY:Blk w1 (w.heap.size+1) 401 _:=Gr.blk hb (Blk.alloc (Blk.alloc (Ab w _ _ _) _) _)
 have BL:Blk w1 (w.heap.size+2) 401 #[.int .u64 0,.int .u64 0,.int .u64 0,.int .u64 0]:=Gr.blk hb (Blk.alloc (Ay w _ _ _ _) _)
 have BG:Blk w1 (w.heap.size+3) 401 _:=Gr.blk hb (Iq w _ _ _ _ _)
 have hB:Below w.heap.size w w1:=Below.gr ((AY w _ _ _).alloc (by simp <;> omega) _) hb
 clear hb r0
 have hlc:=BL.cell 0
 have hlf:=BL.frozen 0
 simp only [List.getElem?_toArray,List.getElem?_cons_zero] at hlc
 go_wp2_with (first | ((with_reducible refine AG ?_); refine AB J _ _ _ J (w.heap.size+3) (fcs g1) J J _ _ (BG.far (by simp <;> omega) _) kZ (by rfl) (AM _) ?_; intro w2 hG0 hB0 hK0; have BX':=hK0 _ om _ _ (BX.far (by simp <;> omega) _); have BY':=hK0 _ om _ _ (BY.far (by simp <;> omega) _); have BL':Blk w2 (w.heap.size+2) 401 #[.int .u64 (l0:Int),.int .u64 0,.int .u64 0,.int .u64 0]:=hK0 _ om _ _ (BL.set_ 0 _); have hyc:w2.cell? ⟨w.heap.size+1,1,none⟩=some (.int .u64 (y1:Int)):=BY'.cell 1) | ((with_reducible refine AF (d:=some 16) ?_); refine AC J _ _ J w.heap.size rfl x _ _ _ BX' FX.out Bh J kZ ?_) | ((with_reducible refine AF (d:=some 19) ?_); refine AC J _ _ J (w.heap.size+3) rfl g1 _ _ _ hG0 (AS g1) Bh J kZ ?_))
 refine (r1 _).mono ?_
 rintro e w3 ⟨rfl,hb⟩
 have hBn:Below w.heap.size w w3:=Below.gr ((hB.setCell (by show w.heap.size≤w.heap.size+1+1; omega) _).trans (hB0 _ om)) hb
 have BXn:=Gr.blk hb BX'
 have BYn:=Gr.blk hb BY'
 have BLn:=Gr.blk hb BL'
 have BGn:=Gr.blk hb hG0
 clear hb r1 hlc hlf hyc BX BY BL BG hB BX' BY' BL' hG0 hB0 hK0
 have BX:=BXn
 have BY:=BYn
 have BL:=BLn
 have BG:=BGn
 have hB:=hBn
 clear BXn BYn BLn BGn hBn
 have hlc:=BL.cell 1
 have hlf:=BL.frozen 1
 simp only [List.getElem?_toArray,List.getElem?_cons_zero,List.getElem?_cons_succ] at hlc
 go_wp2_with (first | ((with_reducible refine AG ?_); refine AB J _ _ _ J (w.heap.size+3) (fcs g2) J J _ _ (BG.far (by simp <;> omega) _) kZ (by rfl) (AM _) ?_; intro w4 hG1 hB1 hK1; have BX':=hK1 _ om _ _ (BX.far (by simp <;> omega) _); have BY':=hK1 _ om _ _ (BY.far (by simp <;> omega) _); have BL':Blk w4 (w.heap.size+2) 401 #[.int .u64 (l0:Int),.int .u64 (l1:Int),.int .u64 0,.int .u64 0]:=hK1 _ om _ _ (BL.set_ 1 _); have hyc:w4.cell? ⟨w.heap.size+1,2,none⟩=some (.int .u64 (y2:Int)):=BY'.cell 2) | ((with_reducible refine AF (d:=some 25) ?_); refine AC J _ _ J w.heap.size rfl x _ _ _ BX' FX.out Bh J kZ ?_) | ((with_reducible refine AF (d:=some 28) ?_); refine AC J _ _ J (w.heap.size+3) rfl g2 _ _ _ hG1 (AS g2) Bh J kZ ?_))
 refine (r2 _).mono ?_
 rintro e w5 ⟨rfl,hb⟩
 have hBn:Below w.heap.size w w5:=Below.gr ((hB.setCell (by show w.heap.size≤w.heap.size+1+1; omega) _).trans (hB1 _ om)) hb
 have BXn:=Gr.blk hb BX'
 have BYn:=Gr.blk hb BY'
 have BLn:=Gr.blk hb BL'
 have BGn:=Gr.blk hb hG1
 clear hb r2 hlc hlf hyc BX BY BL BG hB BX' BY' BL' hG1 hB1 hK1
 have BX:=BXn
 have BY:=BYn
 have BL:=BLn
 have BG:=BGn
 have hB:=hBn
 clear BXn BYn BLn BGn hBn
 have hlc:=BL.cell 2
 have hlf:=BL.frozen 2
 simp only [List.getElem?_toArray,List.getElem?_cons_zero,List.getElem?_cons_succ] at hlc
 go_wp2_with (first | ((with_reducible refine AG ?_); refine AB J _ _ _ J (w.heap.size+3) (fcs g3) J J _ _ (BG.far (by simp <;> omega) _) kZ (by rfl) (AM _) ?_; intro w6 hG2 hB2 hK2; have BX':=hK2 _ om _ _ (BX.far (by simp <;> omega) _); have BY':=hK2 _ om _ _ (BY.far (by simp <;> omega) _); have BL':Blk w6 (w.heap.size+2) 401 #[.int .u64 (l0:Int),.int .u64 (l1:Int),.int .u64 (l2:Int),.int .u64 0]:=hK2 _ om _ _ (BL.set_ 2 _); have hyc:w6.cell? ⟨w.heap.size+1,3,none⟩=some (.int .u64 (y3:Int)):=BY'.cell 3) | ((with_reducible refine AF (d:=some 34) ?_); refine AC J _ _ J w.heap.size rfl x _ _ _ BX' FX.out Bh J kZ ?_) | ((with_reducible refine AF (d:=some 37) ?_); refine AC J _ _ J (w.heap.size+3) rfl g3 _ _ _ hG2 (AS g3) Bh J kZ ?_))
 refine (r3 _).mono ?_
 rintro e w7 ⟨rfl,hb⟩
 have hBn:Below w.heap.size w w7:=Below.gr ((hB.setCell (by show w.heap.size≤w.heap.size+1+1; omega) _).trans (hB2 _ om)) hb
 have BXn:=Gr.blk hb BX'
 have BYn:=Gr.blk hb BY'
 have BLn:=Gr.blk hb BL'
 have BGn:=Gr.blk hb hG2
 clear hb r3 hlc hlf hyc BX BY BL BG hB BX' BY' BL' hG2 hB2 hK2
 have BX:=BXn
 have BY:=BYn
 have BL:=BLn
 have BG:=BGn
 have hB:=hBn
 clear BXn BYn BLn BGn hBn
 have hlc:=BL.cell 3
 have hlf:=BL.frozen 3
 simp only [List.getElem?_toArray,List.getElem?_cons_zero,List.getElem?_cons_succ] at hlc
 go_wp2_with ((with_reducible refine AG ?_); refine AB J _ _ _ J (w.heap.size+3) (fcs g4) J J _ _ (BG.far (by simp <;> omega) _) kZ (by rfl) (AM _) ?_; intro w8 hG3 hB3 hK3; have BX':=hK3 _ om _ _ (BX.far (by simp <;> omega) _); have BY':=hK3 _ om _ _ (BY.far (by simp <;> omega) _); have BL':Blk w8 (w.heap.size+2) 401 #[.int .u64 (l0:Int),.int .u64 (l1:Int),.int .u64 (l2:Int),.int .u64 (l3:Int)]:=hK3 _ om _ _ (BL.set_ 3 _))
 have hB8:Below w.heap.size w w8:=(hB.setCell (by show w.heap.size≤w.heap.size+1+1; omega) _).trans (hB3 _ om)
 have BG8:Blk w8 (w.heap.size+3) 401 _:=hG3.eq_ (BV FG.out)
 have q0:w8.cell? ⟨w.heap.size+1+1,0,none⟩=some (.int .u64 (l0:Int)):=BL'.cell 0
 have q1:w8.cell? ⟨w.heap.size+1+1,1,none⟩=some (.int .u64 (l1:Int)):=BL'.cell 1
 have q2:w8.cell? ⟨w.heap.size+1+1,2,none⟩=some (.int .u64 (l2:Int)):=BL'.cell 2
 have q3:w8.cell? ⟨w.heap.size+1+1,3,none⟩=some (.int .u64 (l3:Int)):=BL'.cell 3
 have p0:w8.cell? ⟨w.heap.size+1+1+1,0,none⟩=some (.int .u64 (z0:Int)):=BG8.cell 0
 have p1:w8.cell? ⟨w.heap.size+1+1+1,1,none⟩=some (.int .u64 (z1:Int)):=BG8.cell 1
 have p2:w8.cell? ⟨w.heap.size+1+1+1,2,none⟩=some (.int .u64 (z2:Int)):=BG8.cell 2
 have p3:w8.cell? ⟨w.heap.size+1+1+1,3,none⟩=some (.int .u64 (z3:Int)):=BG8.cell 3
 have fq:∀ i,w8.frozen? ⟨w.heap.size+1+1,i,none⟩=false:=λi=>BL'.frozen i
 have fp:∀ i,w8.frozen? ⟨w.heap.size+1+1+1,i,none⟩=false:=λi=>BG8.frozen i
 clear hlc hlf hK3 BX' BY' BX BY
 go_region
 all_goals
  go_wp2
  have f1:Blk _ (w.heap.size+2) 401 #[.int .u64 (l0:Int),.int .u64 (l1:Int),.int .u64 (l2:Int),.int .u64 (l3:Int)]:=Rq BL' BG8 om
  have f2:Blk _ (w.heap.size+3) 401 #[.int .u64 (z0:Int),.int .u64 (z1:Int),.int .u64 (z2:Int),.int .u64 (z3:Int)]:=PL BL' BG8 om
  exact bodyPost_ret (Iy J _ _ (w.heap.size+2) (w.heap.size+3) _ _ _ _ _ _ J f1 J f2 Bh J kZ Bh J kZ) rfl ⟨by rw [FL.out,FG.out],OC hB8 om om⟩
end
end
section
section
open Go.RowKit Go.Lib
def I4 (x y:Nat):Nat:=((x+y)%(2^256)+(x+y) / (2^256)*4294968273)%(2^256)+((x+y)%(2^256)+(x+y) / (2^256)*4294968273) / (2^256)*4294968273
theorem KG (x y:Nat) (hx:x<(2^256)) (hy:y<(2^256)):I4 x y<(2^256):=by unfold I4; omega
theorem TQ (x y s k u j:Nat) (hs:s<(2^256)) (he:s+(2^256)*k=x+y) (hu:u<(2^256)) (hf:u+(2^256)*j=s+k*4294968273):I4 x y=u+j*4294968273:=by
 have e1:(x+y)%(2^256)=s:=om
 have e2:(x+y) / (2^256)=k:=om
 unfold I4
 rw [e1,e2]
 have e3:(s+k*4294968273)%(2^256)=u:=om
 have e4:(s+k*4294968273) / (2^256)=j:=om
 rw [e3,e4]
theorem It (x y:Nat):I4 x y%pM=(x+y)%pM:=by
 refine HA (k:=(x+y) / (2^256)+((x+y)%(2^256)+(x+y) / (2^256)*4294968273) / (2^256)) ?_
 unfold I4
 omega
theorem KF (w:World) (x y:Nat) (hx:x<(2^256)) (hy:y<(2^256)):Calls Tryz.prog 261 #[fv x,fv y] w λe w'=>e=.returned (fv (I4 x y))∧Below w.heap.size w w' :=
 (TP w x y hx hy).mono λ_ _ ⟨⟨_,s,k,u,j,hs,he,hu,hf,hz,e⟩,hb⟩=>⟨by rw [e,hz,TQ x y s k u j hs he hu hf],hb⟩
theorem norm_any (w:World) (x:Nat) (hx:x<(2^256)):Calls Tryz.prog 232 #[fv x] w λe w'=>e=.returned (fv (x%pM))∧Below w.heap.size w w':=by
 obtain ⟨x0,x1,x2,x3,fx⟩:=Ae x hx
 have FX:=Lib.hid fx
 have HX:=Lib.hid hx
 rw [fx]
 clear fx hx
 go_enter Tryz.func232,Tryz.ntmps232
 go_wp2_with fail
 refine (PZ x FX.out _).mono ?_
 rintro e w1 ⟨rfl,hb1⟩
 go_wp2_with fail
 refine (Dj _ x HX.out).mono ?_
 rintro e w2 ⟨rfl,hb2⟩
 go_wp2_with fail
 refine (B0 _ _).mono ?_
 rintro e w3 ⟨rfl,hb3⟩
 have hg:=Below.gr (Below.gr (Below.gr (w:=w) (AZ w _ _) hb1) hb2) hb3
 have hR:Blk w3 (w.heap.size+1) 55 _:=Gr.blk hb3 (Gr.blk hb2 (Gr.blk hb1 (Ab w _ _ _)))
 go_wp2_with ((with_reducible refine AG ?_); refine AB J _ _ _ J (w.heap.size+1) (fcs (x%pM)) J J _ _ hR kZ (by rfl) (AM _) ?_; intro w4 hL hB4 hK4)
 exact bodyPost_ret (results_cell_row J _ _ (w.heap.size+1) _ _ (0,0) _ J hL Af J kZ) rfl ⟨rfl,hg.trans (hB4 _ om)⟩
theorem UV (w:World) (n:Nat) (hn:n<18446744073709551616):Calls Tryz.prog 263 #[.int .u64 (n:Int)] w λe w'=>e=.returned (fv n)∧Below w.heap.size w w':=by
 have e:fv n=.agg #[.int .u64 (n:Int),.int .u64 0,.int .u64 0,.int .u64 0]:=by
  have h:=Cw n 0 0 0 hn om om om
  exact h.symm
 rw [e]
 go_enter Tryz.func263,Tryz.ntmps263
 go_wp2
 exact bodyPost_ret (results_cell_row J _ _ w.heap.size _ _ (0,0) _ J (heap_alloc_new w _) Af J kZ) rfl ⟨rfl,(Below.refl _ _).alloc (Nat.le_refl _) _⟩
theorem Rk (w:World) (x y:Nat) (hx:x<(2^256)) (hy:y<(2^256)):Calls Tryz.prog 262 #[fv x,fv y] w λe w'=>e=.returned (fv (KH x y))∧Below w.heap.size w w':=by
 obtain ⟨v,hv⟩:=xE (I4 x y)
 obtain ⟨z,hz⟩:=xE (v%pM)
 have HZ:=Lib.hid (And.intro hv hz)
 have hlt:=Lib.hid (hv ▸ KG x y hx hy:v<(2^256))
 rw [show KH x y=z by rw [hz,hv,It]; rfl]
 clear hz hv
 have HX:=Lib.hid hx
 have HY:=Lib.hid hy
 obtain ⟨x0,x1,x2,x3,fx⟩:=Ae x hx
 obtain ⟨y0,y1,y2,y3,fy⟩:=Ae y hy
 have FX:=Lib.hid fx
 have FY:=Lib.hid fy
 rw [fx,fy]
 clear fx fy hx hy
 go_enter Tryz.func262,Tryz.ntmps262
 go_wp2
 refine AP (λj=>j == 7) kZ ?_
 try simp only [Act.put]
 refine tkw 0 J (YieldsG.loadF (by rfl) _ _ J w.heap.size rfl x _ _ (((Blk.new w _ _).alloc _).alloc _) FX.out Af J kZ) ?_
 try simp only [aPS]
 refine tkw 1 J (YieldsG.call (v:=fv x) (by rfl) 257 _ (λw9=>by go_simp; try rfl) (λw9 h9=>C6 w9 x)) ?_
 try simp only [aPS]
 refine tkw 2 J (YieldsG.loadF (by rfl) _ _ J (w.heap.size+1) rfl y _ _ ((Ab w _ _ _).alloc _) FY.out Af J kZ) ?_
 try simp only [aPS]
 refine tkw 3 J (YieldsG.call (v:=fv y) (by rfl) 257 _ (λw9=>by go_simp; try rfl) (λw9 h9=>C6 w9 y)) ?_
 try simp only [aPS]
 refine tkw 4 J (YieldsG.call (v:=fv v) (by rfl) 261 _ (λw9=>by go_simp; try rfl) (λw9 h9=>HZ.out.1 ▸ KF w9 x y HX.out HY.out)) ?_
 try simp only [aPS]
 refine tkw 5 J (YieldsG.call (v:=fv z) (by rfl) 256 _ (λw9=>by go_simp; try rfl) (λw9 h9=>HZ.out.2 ▸ Dj w9 _ hlt.out)) ?_
 try simp only [aPS]
 refine tkw 6 J (YieldsG.call (v:=fv z) (by rfl) 255 _ (λw9=>by go_simp; try rfl) (λw9 h9=>B0 w9 _)) ?_
 try simp only [aPS]
 refine CE 7 J kZ (by rfl) _ _ _ J (w.heap.size+2) (fcs z) J J _ _ (Ay w _ _ _ _) kZ (by rfl) (AM _) rfl (λw6 h6 w7 hB7 hL7=>?_)
 try simp only [Act.put]
 refine AO kZ (λw8 h8=>?_)
 have hfin:=Gr.blk h8 hL7
 have hb9:=(Below.gr (AY w _ _ _) h6).trans ((hB7 _ om).trans (Below.mono h8 (by have:=hL7.lt; omega)))
 go_wp2
 exact bodyPost_ret (results_cell_row J _ _ (w.heap.size+2) _ _ (0,0) _ J hfin Af J kZ) rfl ⟨rfl,hb9⟩
end
end
section
section
open Go.RowKit Go.Lib
theorem IX (w:World) (x y s k:Nat) (hx:x<(2^256)) (hy:y<(2^256)) (hs:s<(2^256)) (he:s+y=x+(2^256)*k) :
  Calls Tryz.prog 287 #[fv x,fv y] w λe w'=>e=.returned (.tuple #[fv s,.int .u64 (k:Int)])∧Below w.heap.size w w':=Ky w x y s k J J hx hy hs he
theorem Lp (w:World) (x y lo hi:Nat) (hx:x<(2^256)) (hy:y<(2^256)) (hlo:lo<(2^256)) (he:lo+(2^256)*hi=x*y) :
  Calls Tryz.prog 258 #[fv x,fv y] w λe w'=>e=.returned (.tuple #[fv lo,fv hi])∧Below w.heap.size w w':=Lq w x y lo hi J J hx hy hlo he
theorem PU (w:World) (x y:Nat) (hx:x<(2^256)) (hy:y<(2^256)):Calls Tryz.prog 277 #[fv x,fv y] w λe w'=>e=.returned (fv (OM x y))∧Below w.heap.size w w':=by
 obtain ⟨p,hp⟩:=xE (x%pM)
 obtain ⟨q,hq⟩:=xE (y%pM)
 have hpl:p<(2^256):=by rw [hp]; exact mod_lt x
 have hql:q<(2^256):=by rw [hq]; exact mod_lt y
 have hpp:p<115792089237316195423570985008687907853269984665640564039457584007908834671663:=by rw [hp]; exact Bw x
 have hqp:q<115792089237316195423570985008687907853269984665640564039457584007908834671663:=by rw [hq]; exact Bw y
 obtain ⟨z,hz⟩:=xE (OM x y)
 have hzs:z=if q≤p then p - q else p+115792089237316195423570985008687907853269984665640564039457584007908834671663 - q:=by rw [hz,OL, ← hp, ← hq]
 obtain ⟨s,k,hk,hs,he,hzk⟩:∃ s k:Nat,k≤1∧s<(2^256)∧s+q=p+(2^256)*k∧z+k*4294968273=s+(2^256)*0:=by
  by_cases h:q≤p
  ·rw [if_pos h] at hzs; exact ⟨p - q,0,by omega,by omega,by omega,by omega⟩
  ·rw [if_neg h] at hzs; exact ⟨p+(2^256) - q,1,by omega,by omega,by omega,by omega⟩
 obtain ⟨j,hj⟩:=xE (k*4294968273)
 have hJ:(k:Int)*4294968273=(j:Int):=om
 have hjl:j<18446744073709551616:=om
 have hzl:z<(2^256):=om
 have cm:=λw=>Ky w s j z 0 (v1:=fv s) rfl (Ie j hjl) hs om hzl (by rw [hj]; exact hzk)
 have HP:=Lib.hid (And.intro hp hq)
 have HS:=Lib.hid (And.intro hpl (And.intro hql (And.intro hs he)))
 obtain ⟨x0,x1,x2,x3,fx⟩:=Ae x hx
 obtain ⟨y0,y1,y2,y3,fy⟩:=Ae y hy
 have FX:=Lib.hid fx
 have FY:=Lib.hid fy
 have HX:=Lib.hid hx
 have HY:=Lib.hid hy
 rw [fx,fy, ← hz]
 clear fx fy hx hy hp hq hpl hql hpp hqp hz hzs hk hs he hzk hj hzl
 go_enter Tryz.func277,Tryz.ntmps277
 go_wp2
 refine AP (λj=>j == 11) kZ ?_
 try simp only [Act.put]
 refine tkw 0 J (YieldsG.loadF (by rfl) _ _ J w.heap.size rfl x _ _ (((Blk.new w _ _).alloc _).alloc _) FX.out Af J kZ) ?_
 try simp only [aPS]
 refine tkw 1 J (YieldsG.call (v:=fv x) (by rfl) 257 _ (λw9=>by go_simp; try rfl) (λw9 h9=>C6 w9 x)) ?_
 try simp only [aPS]
 refine tkw 2 J (YieldsG.call (v:=fv p) (by rfl) 256 _ (λw9=>by go_simp; try rfl) (λw9 h9=>HP.out.1 ▸ Dj w9 _ HX.out)) ?_
 try simp only [aPS]
 refine tkw 3 J (YieldsG.loadF (by rfl) _ _ J (w.heap.size+1) rfl y _ _ ((Ab w _ _ _).alloc _) FY.out Af J kZ) ?_
 try simp only [aPS]
 refine tkw 4 J (YieldsG.call (v:=fv y) (by rfl) 257 _ (λw9=>by go_simp; try rfl) (λw9 h9=>C6 w9 y)) ?_
 try simp only [aPS]
 refine tkw 5 J (YieldsG.call (v:=fv q) (by rfl) 256 _ (λw9=>by go_simp; try rfl) (λw9 h9=>HP.out.2 ▸ Dj w9 _ HY.out)) ?_
 try simp only [aPS]
 refine tkw 6 J (YieldsG.call (v:=.tuple #[fv s,.int .u64 (k:Int)]) (by rfl) 287 _ (λw9=>by go_simp; try rfl) (λw9 h9=>IX w9 p q s k HS.out.1 HS.out.2.1 HS.out.2.2.1 HS.out.2.2.2)) ?_
 try simp only [aPS]
 refine tk 7 J ?_
 try simp only [aPS]
 refine tk 8 J ?_
 try simp only [aPS]
 refine Ao 9 J kZ (λ_ _ _ h=>h) (λ_=>YieldsG.pure (by rfl) (λw9 _=>by go_simp; try with_reducible rfl)) ?_
 try simp only [aPS]
 refine Au 10 J kZ (by rfl) (λw3 h3 K hK=>?_)
 go_simp
 refine hK _ _ (λ_=>Bx _ _) ?_
 clear hK K
 try simp only [aPS]
 refine CE 11 J kZ (by rfl) _ _ _ J w3.heap.size (fcs s) J J _ _ (Blk.new w3 _ _) kZ (by rfl) (AM _) rfl (λw6 h6 w7 hB7 hL7=>?_)
 try simp only [Act.put]
 refine Ao 12 J kZ (λ_ _ _ h=>h) (λ_=>YieldsG.pure (by rfl) (λw9 _=>by go_simp; try with_reducible rfl)) ?_
 try simp only [aPS]
 refine AO kZ (λw8 h8=>?_)
 have hL8:=Gr.blk h8 hL7
 have BR8:Blk w8 (w.heap.size+2) 55 _:=Gr.blk h8 (Blk.below (B:=w3.heap.size) (Gr.blk h6 (Blk.alloc (Gr.blk h3 (Ay w _ _ _ _)) _)) (hB7 _ (Nat.le_refl _)) (by have:=h3.size; simp at this; omega))
 have hsz:w.heap.size+3≤w3.heap.size:=by have:=h3.size; simp at this; omega
 have hb9:Below w.heap.size w w8:=Below.gr ((Below.gr ((Below.gr (AY w _ _ _) h3).alloc om _) h6).trans (hB7 _ om)) h8
 clear h3 h6 hB7 hL7 h8
 go_wp2_with ((with_reducible refine AF (d:=some 18) ?_); refine AC J _ _ J w3.heap.size rfl s _ _ _ hL8 (AS s) Bh J kZ ?_)
 refine (cm _).mono ?_
 rintro e w9 ⟨rfl,hb⟩
 have BR9:=Gr.blk hb BR8
 have BT9:=Gr.blk hb hL8
 have hBn:=Below.gr hb9 hb
 clear hb hb9 BR8 hL8 cm
 go_wp2_with (first | ((with_reducible refine AG ?_); refine AB J _ _ _ J w3.heap.size (fcs z) J J _ _ BT9 kZ (by rfl) (AM _) ?_; intro w10 hL10 hB10 hK10; have BR10:=hK10 _ om _ _ BR9) | ((with_reducible refine AF (d:=some 25) ?_); refine AC J _ _ J w3.heap.size rfl z _ _ _ hL10 (AS z) Bh J kZ ?_))
 refine (B0 _ _).mono ?_
 rintro e w11 ⟨rfl,hb⟩
 have BR11:=Gr.blk hb BR10
 have hBm:=Below.gr (hBn.trans (hB10 _ om)) hb
 go_wp2_with ((with_reducible refine AG ?_); refine AB J _ _ _ J (w.heap.size+2) (fcs z) J J _ _ BR11 kZ (by rfl) (AM _) ?_; intro w12 hL12 hB12 hK12)
 exact bodyPost_ret (results_cell_row J _ _ (w.heap.size+2) _ _ (0,0) _ J hL12 Af J kZ) rfl ⟨rfl,hBm.trans (hB12 _ om)⟩
theorem Kv (w:World) (x:Nat) (hx:x<(2^256)):Calls Tryz.prog 254 #[fv x] w λe w'=>e=.returned (fv (C2 x))∧Below w.heap.size w w':=by
 obtain ⟨z,hz⟩:=xE (C2 x)
 have cs:∀ w,Calls Tryz.prog 277 #[.agg #[.int .u64 0,.int .u64 0,.int .u64 0,.int .u64 0],fv x] w λe w'=>e=.returned (fv z)∧Below w.heap.size w w':=by
  intro w; rw [hz,SZ, ← Vt]; exact PU w 0 x om hx
 obtain ⟨x0,x1,x2,x3,fx⟩:=Ae x hx
 rw [fx] at cs
 rw [fx, ← hz]
 clear fx hx hz
 go_enter Tryz.func254,Tryz.ntmps254
 go_wp2_with fail
 refine (cs _).mono ?_
 rintro e w1 ⟨rfl,hb⟩
 have BR:Blk w1 (w.heap.size+1) 55 _:=Gr.blk hb (Ab w _ _ _)
 have hB:=Below.gr (AZ w _ _) hb
 go_wp2_with ((with_reducible refine AG ?_); refine AB J _ _ _ J (w.heap.size+1) (fcs z) J J _ _ BR kZ (by rfl) (AM _) ?_; intro w2 hL2 hB2 hK2)
 exact bodyPost_ret (results_cell_row J _ _ (w.heap.size+1) _ _ (0,0) _ J hL2 Af J kZ) rfl ⟨rfl,hB.trans (hB2 _ om)⟩
theorem Oi (x y:Nat) (hx:x<(2^256)) (hy:y<(2^256)):∃ lo hi f t b c g:Nat,lo<(2^256)∧hi<(2^256)∧lo+(2^256)*hi=x*y∧f<(2^256)∧f+(2^256)*t=hi*4294968273∧t<18446744073709551616∧b<18446744073709551616∧c<18446744073709551616∧b+18446744073709551616*c=t*4294968273∧g=b+18446744073709551616*c∧g<(2^256)∧(lo+f+g)%pM=Bm x y:=by
 have h:x*y≤115792089237316195423570985008687907853269984665640564039457584007913129639935*115792089237316195423570985008687907853269984665640564039457584007913129639935:=Nat.mul_le_mul om om
 refine ⟨x*y%(2^256),x*y / (2^256),x*y / (2^256)*4294968273%(2^256),x*y / (2^256)*4294968273 / (2^256),x*y / (2^256)*4294968273 / (2^256)*4294968273%18446744073709551616,x*y / (2^256)*4294968273 / (2^256)*4294968273 / 18446744073709551616,x*y / (2^256)*4294968273 / (2^256)*4294968273,by omega,by omega,by omega,by omega,by omega,by omega,by omega,by omega,by omega,by omega,by omega,?_⟩
 unfold Bm
 refine HA (k:=x*y / (2^256)+x*y / (2^256)*4294968273 / (2^256)) ?_
 generalize x*y=m at *
 omega
theorem GM (w:World) (x y:Nat) (hx:x<(2^256)) (hy:y<(2^256)):Calls Tryz.prog 233 #[fv x,fv y] w λe w'=>e=.returned (fv (Bm x y))∧Below w.heap.size w w':=by
 obtain ⟨lo,hi,f,t,b,c,g,hlo,hhi,he,hf,hft,ht,hb,hc,hbc,hg,hgl,hfin⟩:=Oi x y hx hy
 obtain ⟨a,ha⟩:=xE (I4 lo f)
 obtain ⟨v,hv⟩:=xE (I4 a g)
 obtain ⟨z,hz⟩:=xE (Bm x y)
 have hal:a<(2^256):=by rw [ha]; exact KG _ _ hlo hf
 have hvl:v<(2^256):=by rw [hv]; exact KG _ _ hal hgl
 have hvz:v%pM=z:=by
  rw [hz, ← hfin,hv,It, ← Nat.mod_add_mod,ha,It,Nat.mod_add_mod]
 have ct:∀ w,Calls Tryz.prog 259 #[fv hi,.int .u64 4294968273] w λe w'=>e=.returned (.tuple #[fv f,.int .u64 (t:Int)])∧Below w.heap.size w w':=λw=>KS (v:=fv hi) w hi 4294968273 f t J hhi om hf hft
 have cm:∀ w,Calls Tryz.prog 260 #[.int .u64 (t:Int),.int .u64 4294968273] w λe w'=>e=.returned (.tuple #[.int .u64 (c:Int),.int .u64 (b:Int)])∧w'=w:=λw=>EH w t 4294968273 c b ht om hb hbc
 have ca:=λw=>ha ▸ KF w lo f hlo hf
 have hgf:fv g=.agg #[.int .u64 (b:Int),.int .u64 (c:Int),.int .u64 0,.int .u64 0]:=by
  have h:Value.agg #[.int .u64 (b:Int),.int .u64 (c:Int),.int .u64 0,.int .u64 0]=fv (b+18446744073709551616*c+340282366920938463463374607431768211456*0+6277101735386680763835789423207666416102355444464034512896*0):=Cw b c 0 0 hb hc om om
  exact (h.trans (congrArg fv om)).symm
 have cb:∀ w,Calls Tryz.prog 261 #[fv a,.agg #[.int .u64 (b:Int),.int .u64 (c:Int),.int .u64 0,.int .u64 0]] w λe w'=>e=.returned (fv v)∧Below w.heap.size w w':=by
  intro w; rw [← hgf,hv]; exact KF w a g hal hgl
 have cr:∀ w,Calls Tryz.prog 256 #[fv v] w λe w'=>e=.returned (fv z)∧Below w.heap.size w w':=by
  intro w; rw [← hvz]; exact Dj w v hvl
 have HP:=Lib.hid (And.intro hlo he)
 obtain ⟨x0,x1,x2,x3,fx⟩:=Ae x hx
 obtain ⟨y0,y1,y2,y3,fy⟩:=Ae y hy
 have FX:=Lib.hid fx
 have FY:=Lib.hid fy
 have HX:=Lib.hid (And.intro hx hy)
 rw [fx,fy, ← hz]
 clear fx fy hx hy hlo hhi he hf hft ht hb hc hbc hg hgl hfin ha hv hz hal hvl hvz hgf
 go_enter Tryz.func233,Tryz.ntmps233
 go_wp2
 refine AP (λj=>j == 10 || j == 11) kZ ?_
 try simp only [Act.put]
 refine tkw 0 J (YieldsG.loadF (by rfl) _ _ J w.heap.size rfl x _ _ (((Blk.new w _ _).alloc _).alloc _) FX.out Af J kZ) ?_
 try simp only [aPS]
 refine tkw 1 J (YieldsG.call (v:=fv x) (by rfl) 257 _ (λw9=>by go_simp; try rfl) (λw9 h9=>C6 w9 x)) ?_
 try simp only [aPS]
 refine tkw 2 J (YieldsG.loadF (by rfl) _ _ J (w.heap.size+1) rfl y _ _ ((Ab w _ _ _).alloc _) FY.out Af J kZ) ?_
 try simp only [aPS]
 refine tkw 3 J (YieldsG.call (v:=fv y) (by rfl) 257 _ (λw9=>by go_simp; try rfl) (λw9 h9=>C6 w9 y)) ?_
 try simp only [aPS]
 refine tkw 4 J (YieldsG.call (v:=.tuple #[fv lo,fv hi]) (by rfl) 258 _ (λw9=>by go_simp; try rfl) (λw9 h9=>Lp w9 x y lo hi HX.out.1 HX.out.2 HP.out.1 HP.out.2)) ?_
 try simp only [aPS]
 refine tk 5 J ?_
 try simp only [aPS]
 refine tk 6 J ?_
 try simp only [aPS]
 refine Ao 7 J kZ (λ_ _ _ h=>h) (λ_=>YieldsG.pure (by rfl) (λw9 _=>by go_simp; try with_reducible rfl)) ?_
 try simp only [aPS]
 refine Lc 8 9 J J kZ (by rfl) (by rfl) (λw3 h3 K hK=>?_) (λw3 h3 K hK=>?_)
 ·go_simp
  refine hK _ _ (λ_=>Bx _ _) ?_
  clear hK K
  try simp only [aPS]
  refine Au 9 J kZ (by rfl) (λw4 h4 K hK=>?_)
  go_simp
  refine hK _ _ (λ_=>Bx _ _) ?_
  clear hK K
  try simp only [aPS]
  refine DC 10 J kZ (by rfl) _ _ _ J w3.heap.size (fcs lo) J J _ _ (Gr.blk h4 (Blk.new w3 _ _) |>.alloc _) kZ (by rfl) (AM _) rfl (λw6 h6 w7 hB7 hK7 hL7=>?_)
  try simp only [Act.put]
  have hs4:w3.heap.size+1≤w4.heap.size:=by have:=h4.size; simp at this; omega
  have hs3:w.heap.size+3≤w3.heap.size:=by have:=h3.size; simp at this; omega
  have B6:Blk w7 w4.heap.size 401 _:=hK7 _ om _ _ (Gr.blk h6 (Blk.new w4 _ _))
  have BR7:Blk w7 (w.heap.size+2) 55 _:=hK7 _ om _ _ (Gr.blk h6 (Blk.alloc (Gr.blk h4 (Blk.alloc (Gr.blk h3 (Ay w _ _ _ _)) _)) _))
  have hb7:Below w.heap.size w w7:=(Below.gr ((Below.gr ((Below.gr (AY w _ _ _) h3).alloc om _) h4).alloc om _) h6).trans (hB7 _ om)
  refine DC 11 J kZ (by rfl) _ _ _ J w4.heap.size (fcs hi) J J _ _ B6 kZ (by rfl) (AM _) rfl (λw6 h7 w8 hB8 hK8 hL8=>?_)
  try simp only [Act.put]
  refine AO kZ (λw9 h9=>?_)
  have B5:Blk w9 w3.heap.size 401 _:=Gr.blk h9 (hK8 _ om _ _ (Gr.blk h7 hL7))
  have B6:=Gr.blk h9 hL8
  have BR9:Blk w9 (w.heap.size+2) 55 _:=Gr.blk h9 (hK8 _ om _ _ (Gr.blk h7 BR7))
  have hb9:Below w.heap.size w w9:=Below.gr ((Below.gr hb7 h7).trans (hB8 _ om)) h9
  have hsz9:w4.heap.size+1≤w9.heap.size:=by have h1:=B5.lt; have h2:=B6.lt; omega
  clear h3 h4 h6 h7 h9 hB7 hB8 hK7 hK8 hL7 hL8 BR7 hb7
  go_wp2_with ((with_reducible refine AF (d:=some 20) ?_); refine AC J _ _ J w4.heap.size rfl hi _ _ _ B6 (AS hi) Bh J kZ ?_)
  refine (ct _).mono ?_
  rintro e w10 ⟨rfl,hb⟩
  have B5:=Gr.blk hb B5
  have BR:=Gr.blk hb BR9
  have hBn:=Below.gr hb9 hb
  have hsz10:w4.heap.size+1≤w10.heap.size:=by have:=hb.size; omega
  clear hb hb9 BR9 B6 ct
  go_wp2_with ((with_reducible refine AG ?_); refine AB J _ _ _ J w10.heap.size (fcs f) J J _ _ (Blk.new w10 _ _) kZ (by rfl) (AM _) ?_; intro w11 hL11 hB11 hK11; have B5':=hK11 _ om _ _ (B5.alloc _); have BR':=hK11 _ om _ _ (BR.alloc _))
  refine (cm _).mono ?_
  rintro e w12 ⟨rfl,rfl⟩
  go_wp2_with (first | ((with_reducible refine AF (d:=some 29) ?_); refine AC J _ _ J w3.heap.size rfl lo _ _ _ B5' (AS lo) Bh J kZ ?_) | ((with_reducible refine AF (d:=some 30) ?_); refine AC J _ _ J w10.heap.size rfl f _ _ _ hL11 (AS f) Bh J kZ ?_))
  refine (ca _).mono ?_
  rintro e w13 ⟨rfl,hb13⟩
  go_wp2_with fail
  refine (cb _).mono ?_
  rintro e w14 ⟨rfl,hb14⟩
  go_wp2_with fail
  refine (cr _).mono ?_
  rintro e w15 ⟨rfl,hb15⟩
  go_wp2_with fail
  refine (B0 _ _).mono ?_
  rintro e w16 ⟨rfl,hb16⟩
  have BR16:=Gr.blk hb16 (Gr.blk hb15 (Gr.blk hb14 (Gr.blk hb13 BR')))
  have hB16:=Below.gr (Below.gr (Below.gr (Below.gr ((hBn.alloc om _).trans (hB11 _ om)) hb13) hb14) hb15) hb16
  clear hb13 hb14 hb15 hb16
  go_wp2_with ((with_reducible refine AG ?_); refine AB J _ _ _ J (w.heap.size+2) (fcs z) J J _ _ BR16 kZ (by rfl) (AM _) ?_; intro w17 hL17 hB17 hK17)
  exact bodyPost_ret (results_cell_row J _ _ (w.heap.size+2) _ _ (0,0) _ J hL17 Af J kZ) rfl ⟨rfl,hB16.trans (hB17 _ om)⟩
 ·go_simp
  refine hK _ _ (λ_=>Bx _ _) ?_
  clear hK K
  try simp only [aPS]
  refine Au 8 J kZ (by rfl) (λw4 h4 K hK=>?_)
  go_simp
  refine hK _ _ (λ_=>Bx _ _) ?_
  clear hK K
  try simp only [aPS]
  refine DC 10 J kZ (by rfl) _ _ _ J w4.heap.size (fcs lo) J J _ _ (Blk.new w4 _ _) kZ (by rfl) (AM _) rfl (λw6 h6 w7 hB7 hK7 hL7=>?_)
  try simp only [Act.put]
  have hs4:w3.heap.size+1≤w4.heap.size:=by have:=h4.size; simp at this; omega
  have hs3:w.heap.size+3≤w3.heap.size:=by have:=h3.size; simp at this; omega
  have B6:Blk w7 w3.heap.size 401 _:=hK7 _ om _ _ (Gr.blk h6 (Gr.blk h4 (Blk.new w3 _ _) |>.alloc _))
  have BR7:Blk w7 (w.heap.size+2) 55 _:=hK7 _ om _ _ (Gr.blk h6 (Blk.alloc (Gr.blk h4 (Blk.alloc (Gr.blk h3 (Ay w _ _ _ _)) _)) _))
  have hb7:Below w.heap.size w w7:=(Below.gr ((Below.gr ((Below.gr (AY w _ _ _) h3).alloc om _) h4).alloc om _) h6).trans (hB7 _ om)
  refine DC 11 J kZ (by rfl) _ _ _ J w3.heap.size (fcs hi) J J _ _ B6 kZ (by rfl) (AM _) rfl (λw6 h7 w8 hB8 hK8 hL8=>?_)
  try simp only [Act.put]
  refine AO kZ (λw9 h9=>?_)
  have B5:Blk w9 w4.heap.size 401 _:=Gr.blk h9 (hK8 _ om _ _ (Gr.blk h7 hL7))
  have B6:=Gr.blk h9 hL8
  have BR9:Blk w9 (w.heap.size+2) 55 _:=Gr.blk h9 (hK8 _ om _ _ (Gr.blk h7 BR7))
  have hb9:Below w.heap.size w w9:=Below.gr ((Below.gr hb7 h7).trans (hB8 _ om)) h9
  have hsz9:w4.heap.size+1≤w9.heap.size:=by have h1:=B5.lt; have h2:=B6.lt; omega
  clear h3 h4 h6 h7 h9 hB7 hB8 hK7 hK8 hL7 hL8 BR7 hb7
  go_wp2_with ((with_reducible refine AF (d:=some 20) ?_); refine AC J _ _ J w3.heap.size rfl hi _ _ _ B6 (AS hi) Bh J kZ ?_)
  refine (ct _).mono ?_
  rintro e w10 ⟨rfl,hb⟩
  have B5:=Gr.blk hb B5
  have BR:=Gr.blk hb BR9
  have hBn:=Below.gr hb9 hb
  have hsz10:w4.heap.size+1≤w10.heap.size:=by have:=hb.size; omega
  clear hb hb9 BR9 B6 ct
  go_wp2_with ((with_reducible refine AG ?_); refine AB J _ _ _ J w10.heap.size (fcs f) J J _ _ (Blk.new w10 _ _) kZ (by rfl) (AM _) ?_; intro w11 hL11 hB11 hK11; have B5':=hK11 _ om _ _ (B5.alloc _); have BR':=hK11 _ om _ _ (BR.alloc _))
  refine (cm _).mono ?_
  rintro e w12 ⟨rfl,rfl⟩
  go_wp2_with (first | ((with_reducible refine AF (d:=some 29) ?_); refine AC J _ _ J w4.heap.size rfl lo _ _ _ B5' (AS lo) Bh J kZ ?_) | ((with_reducible refine AF (d:=some 30) ?_); refine AC J _ _ J w10.heap.size rfl f _ _ _ hL11 (AS f) Bh J kZ ?_))
  refine (ca _).mono ?_
  rintro e w13 ⟨rfl,hb13⟩
  go_wp2_with fail
  refine (cb _).mono ?_
  rintro e w14 ⟨rfl,hb14⟩
  go_wp2_with fail
  refine (cr _).mono ?_
  rintro e w15 ⟨rfl,hb15⟩
  go_wp2_with fail
  refine (B0 _ _).mono ?_
  rintro e w16 ⟨rfl,hb16⟩
  have BR16:=Gr.blk hb16 (Gr.blk hb15 (Gr.blk hb14 (Gr.blk hb13 BR')))
  have hB16:=Below.gr (Below.gr (Below.gr (Below.gr ((hBn.alloc om _).trans (hB11 _ om)) hb13) hb14) hb15) hb16
  clear hb13 hb14 hb15 hb16
  go_wp2_with ((with_reducible refine AG ?_); refine AB J _ _ _ J (w.heap.size+2) (fcs z) J J _ _ BR16 kZ (by rfl) (AM _) ?_; intro w17 hL17 hB17 hK17)
  exact bodyPost_ret (results_cell_row J _ _ (w.heap.size+2) _ _ (0,0) _ J hL17 Af J kZ) rfl ⟨rfl,hB16.trans (hB17 _ om)⟩
end
end
section
namespace Nt
def Pr (p:Nat):Prop:=2≤p∧∀ k,0<k→k<p→Nat.gcd k p=1
def bin:Nat→Nat→Nat
  | _,0=>1
  | 0,_+1=>0
  | n+1,k+1=>bin n k+bin n (k+1)
theorem GZ (n:Nat):bin n 0=1:=by cases n <;> rfl
theorem Ga:∀ (n k:Nat),n<k→bin n k=0
  | 0,k+1,_=>rfl
  | n+1,k+1,h=>by rw [bin,Ga n k om,Ga n (k+1) om]
theorem LU:∀ n,bin n n=1
  | 0=>rfl
  | n+1=>by rw [bin,LU n,Ga n (n+1) om]
theorem Hs : ∀ (n k : Nat), (k + 1) * bin (n + 1) (k + 1) = (n + 1) * bin n k
  | 0,0=>rfl
  | 0,k+1=>by
    show (k+2)*(bin 0 (k+1)+bin 0 (k+2))=_
    rfl
  | n+1,0=>by
    have h:=Hs n 0
    have e:bin (n+1+1) (0+1)=bin (n+1) 0+bin (n+1) (0+1):=rfl
    rw [e,GZ]
    rw [GZ] at h
    omega
  | n+1,k+1=>by
    have h1:=Hs n k
    have h2:=Hs n (k+1)
    rw [bin,Nat.mul_add,h2]
    have e1:(k+1+1)*bin (n+1) (k+1)=(n+1)*bin n k+bin (n+1) (k+1):=by rw [Nat.add_mul (k+1) 1,h1,Nat.one_mul]
    rw [e1]
    have e2:bin (n+1) (k+1)=bin n k+bin n (k+1):=rfl
    rw [e2]
    simp only [Nat.add_mul,Nat.mul_add,Nat.one_mul]
    omega
def Ef (n a:Nat):Nat→Nat
  | 0=>0
  | k+1=>Ef n a k+bin n k*a ^ k
theorem JQ (n a : Nat) : ∀ k, Ef (n + 1) a (k + 1) = Ef n a (k + 1) + a * Ef n a k
  | 0=>by simp [Ef,GZ]
  | k+1=>by
    rw [Ef,JQ n a k]
    have e1:Ef n a (k+1+1)=Ef n a (k+1)+bin n (k+1)*a ^ (k+1):=rfl
    have e2:Ef n a (k+1)=Ef n a k+bin n k*a ^ k:=rfl
    have e3:bin (n+1) (k+1)=bin n k+bin n (k+1):=rfl
    have e4:a*(bin n k*a ^ k)=bin n k*a ^ (k+1):=by rw [Nat.pow_succ,Nat.mul_left_comm,Nat.mul_comm a]
    rw [e1,e2,e3,Nat.add_mul,Nat.mul_add,e4]
    omega
theorem Mz (a : Nat) : ∀ n, (a + 1) ^ n = Ef n a (n + 1)
  | 0=>by simp [Ef,bin]
  | n+1=>by
    rw [JQ,Nat.pow_succ,Mz a n]
    have e:Ef n a (n+1+1)=Ef n a (n+1)+bin n (n+1)*a ^ (n+1):=rfl
    rw [e,Ga n (n+1) om,Nat.zero_mul,Nat.mul_add,Nat.mul_one,Nat.add_zero,Nat.mul_comm]
    omega
theorem TK {p : Nat} (hp : Pr p) (k : Nat) (h0 : 0 < k) (h1 : k < p) : p ∣ bin p k := by
  obtain ⟨n,rfl⟩:∃ n,p=n+1:=⟨p - 1,by omega⟩
  obtain ⟨j,rfl⟩:∃ j,k=j+1:=⟨k - 1,by omega⟩
  have hm:=Hs n j
  have hd:n+1 ∣ (j+1)*bin (n+1) (j+1):=⟨_,hm⟩
  have hc:Nat.Coprime (n+1) (j+1):=by
    have:=hp.2 (j+1) h0 h1
    unfold Nat.Coprime
    rw [Nat.gcd_comm]
    exact this
  exact hc.dvd_of_dvd_mul_left hd
theorem LT {p : Nat} (hp : Pr p) (a : Nat) : ∀ k, 0 < k → k ≤ p → Ef p a k % p = 1
  | 0,h,_=>by omega
  | 1,_,_=>by
    have:Ef p a 1=1:=by simp [Ef,GZ]
    rw [this]
    exact Nat.mod_eq_of_lt hp.1
  | k+2,_,h=>by
    have ih:=LT hp a (k+1) om om
    obtain ⟨c,hc⟩:=TK hp (k+1) om om
    rw [Ef,hc,Nat.mul_assoc,Nat.add_mul_mod_self_left]
    exact ih
theorem Na {p : Nat} (hp : Pr p) : ∀ a, a ^ p % p = a % p
  | 0=>by
    obtain ⟨n,hn⟩:∃ n,p=n+1:=⟨p - 1,by have:=hp.1; omega⟩
    rw [hn,Nat.pow_succ,Nat.mul_zero]
  | a+1=>by
    have h0:=hp.1
    rw [Mz,Ef,LU,Nat.one_mul,Nat.add_mod,LT hp a p om (Nat.le_refl _),Na hp a,Nat.add_comm 1,Nat.mod_add_mod]
theorem cop {p:Nat} (hp:Pr p) (a:Nat) (ha:a%p≠0):Nat.Coprime p a:=by
  unfold Nat.Coprime
  rw [Nat.gcd_rec]
  exact hp.2 (a%p) (Nat.pos_of_ne_zero ha) (Nat.mod_lt _ (by have:=hp.1; omega))
theorem flt {p : Nat} (hp : Pr p) (a : Nat) (ha : a % p ≠ 0) : a ^ (p - 1) % p = 1 := by
  have h2:=hp.1
  have ha0:0<a:=by
    rcases Nat.eq_zero_or_pos a with h | h
    · subst h; simp at ha
    · exact h
  have hpos:0<a ^ (p - 1):=Nat.pow_pos ha0
  have e:a ^ p=a*a ^ (p - 1):=by
    conv=>lhs; rw [show p=(p - 1)+1 by omega]
    rw [Nat.pow_succ,Nat.mul_comm]
  have h:=Na hp a
  have hd:p ∣ a*(a ^ (p - 1) - 1):=by
    rw [Nat.mul_sub,Nat.mul_one, ← e]
    exact Nat.dvd_of_mod_eq_zero (Nat.sub_mod_eq_zero_of_mod_eq h)
  obtain ⟨c,hc⟩:=(cop hp a ha).dvd_of_dvd_mul_left hd
  have h3:a ^ (p - 1)=1+p*c:=om
  rw [h3,Nat.add_mul_mod_self_left]
  exact Nat.mod_eq_of_lt h2
theorem Gx : ∀ (f g : Nat), g ≤ f → 2 ≤ g → ∃ r, Pr r ∧ r ∣ g
  | 0,g,h,h2=>by omega
  | f + 1, g, h, h2 => by
    by_cases hp:Pr g
    · exact ⟨g,hp,Nat.dvd_refl _⟩
    · have hn:¬ ∀ k,0<k→k<g→Nat.gcd k g=1:=λhk=>hp ⟨h2,hk⟩
      obtain ⟨k,hk⟩:=Classical.not_forall.1 hn
      obtain ⟨h0,hk⟩:=Classical.not_imp.1 hk
      obtain ⟨h1,hk⟩:=Classical.not_imp.1 hk
      have hle:Nat.gcd k g≤k:=Nat.gcd_le_left g h0
      have hpos:0<Nat.gcd k g:=Nat.gcd_pos_of_pos_left g h0
      obtain ⟨r,hr,hd⟩:=Gx f (Nat.gcd k g) om om
      exact ⟨r,hr,Nat.dvd_trans hd (Nat.gcd_dvd_right k g)⟩
theorem Kk {b m r:Nat} (hr:2≤r) (h:b ^ m%r=1) (k:Nat):b ^ (m*k)%r=1:=by
  rw [Nat.pow_mul,Nat.pow_mod,h,Nat.one_pow]
  exact Nat.mod_eq_of_lt hr
theorem SC {b r : Nat} (hr : 2 ≤ r) (m n : Nat) : b ^ m % r = 1 → b ^ n % r = 1 → b ^ (Nat.gcd m n) % r = 1 := by
  induction m,n using Nat.gcd.induction with
  | H0 n=>intro _ h; rw [Nat.gcd_zero_left]; exact h
  | H1 m n hm ih =>
    intro h1 h2
    rw [Nat.gcd_rec]
    refine ih ?_ h1
    have e:b ^ n=b ^ (m*(n / m))*b ^ (n%m):=by rw [← Nat.pow_add,Nat.div_add_mod]
    rw [e,Nat.mul_mod,Kk hr h1,Nat.one_mul,Nat.mod_mod] at h2
    exact h2
theorem P5 {N a q : Nat} (hq : Pr q) (hd : q ∣ N - 1) (h1 : a ^ (N - 1) % N = 1) (hg : Nat.gcd (a ^ ((N - 1) / q) % N + (N - 1)) N = 1) (hN : 2 ≤ N) (r : Nat) (hr : Pr r) (hrN : r ∣ N) : q ∣ r - 1 := by
  have hr2:=hr.1
  have hb:(a ^ ((N - 1) / q)) ^ q%r=1:=by
    rw [← Nat.pow_mul,Nat.div_mul_cancel hd]
    have:a ^ (N - 1)%N%r=1%r:=by rw [h1]
    rw [Nat.mod_mod_of_dvd _ hrN] at this
    rw [this]
    exact Nat.mod_eq_of_lt hr2
  generalize hbd:a ^ ((N - 1) / q)=b at hb hg
  have hb0:b%r≠0:=by
    intro h0
    have hq0:q≠0:=by have:=hq.1; omega
    rw [Nat.pow_mod,h0,Nat.zero_pow om] at hb
    simp at hb
  have hf:=flt hr b hb0
  have hgcd:=SC hr2 q (r - 1) hb hf
  by_cases hdv:q ∣ r - 1
  · exact hdv
  · exfalso
    have hne:(r - 1)%q≠0:=λh=>hdv (Nat.dvd_of_mod_eq_zero h)
    have hc:Nat.gcd q (r - 1)=1:=cop hq (r - 1) hne
    rw [hc,Nat.pow_one] at hgcd
    have hN1 : (N - 1) % r = r - 1 := by
      obtain ⟨c,hc⟩:=hrN
      obtain ⟨d, rfl⟩ : ∃ d, c = d + 1 := ⟨c - 1, by rcases c with _ | c; · simp at hc; omega
                                                     · rfl⟩
      have:N - 1=r*d+(r - 1):=by rw [hc,Nat.mul_add,Nat.mul_one]; omega
      rw [this,Nat.mul_add_mod,Nat.mod_eq_of_lt om]
    have hz:(b%N+(N - 1))%r=0:=by
      rw [Nat.add_mod,Nat.mod_mod_of_dvd _ hrN,hgcd,hN1]
      have:1+(r - 1)=r:=om
      rw [this,Nat.mod_self]
    have hdd:r ∣ 1:=by
      rw [← hg]
      exact Nat.dvd_gcd (Nat.dvd_of_mod_eq_zero hz) hrN
    have:=Nat.le_of_dvd om hdd
    omega
theorem UI {N F : Nat} (hN : 2 ≤ N) (h : ∀ r, Pr r → r ∣ N → F ∣ r - 1) (hF : N < (F + 1) * (F + 1)) : Pr N := by
  refine ⟨hN,λk h0 h1=>?_⟩
  by_cases hg:Nat.gcd k N=1
  · exact hg
  · exfalso
    have hle:Nat.gcd k N≤k:=Nat.gcd_le_left N h0
    have hpos:0<Nat.gcd k N:=Nat.gcd_pos_of_pos_left N h0
    obtain ⟨c,hc⟩:=Nat.gcd_dvd_right k N
    have hc2:2≤c:=by
      rcases c with _ | _ | c
      · omega
      · omega
      · omega
    obtain ⟨r,hr,hrd⟩:=Gx _ (Nat.gcd k N) (Nat.le_refl _) om
    obtain ⟨s,hs,hsd⟩:=Gx _ c (Nat.le_refl _) hc2
    have hrN:r ∣ N:=Nat.dvd_trans hrd (Nat.gcd_dvd_right k N)
    have hsN:s ∣ N:=by rw [hc]; exact Nat.dvd_trans hsd (Nat.dvd_mul_left c _)
    have hr2:=hr.1
    have hs2:=hs.1
    have l1:=Nat.le_of_dvd om (h r hr hrN)
    have l2:=Nat.le_of_dvd om (h s hs hsN)
    have m1:r≤Nat.gcd k N:=Nat.le_of_dvd hpos hrd
    have m2:s≤c:=Nat.le_of_dvd om hsd
    have:(F+1)*(F+1)≤Nat.gcd k N*c:=Nat.mul_le_mul om om
    omega
theorem Eo {n b : Nat} (h2 : 2 ≤ n) (hb : n < b * b) (h : (List.range b).all (fun k => k < 2 || n % k != 0) = true) : Pr n := by
  refine ⟨h2,λk h0 h1=>?_⟩
  by_cases hg:Nat.gcd k n=1
  · exact hg
  · exfalso
    have hle:Nat.gcd k n≤k:=Nat.gcd_le_left n h0
    have hpos:0<Nat.gcd k n:=Nat.gcd_pos_of_pos_left n h0
    obtain ⟨c,hc⟩:=Nat.gcd_dvd_right k n
    have hc2:2≤c:=by
      rcases c with _ | _ | c
      · omega
      · omega
      · omega
    have key:∀ d,2≤d→d<b→d ∣ n→False:=by
      intro d hd hdb hdn
      have:=List.all_eq_true.1 h d (List.mem_range.2 hdb)
      have hz:=Nat.mod_eq_zero_of_dvd hdn
      simp [hz] at this
      omega
    rcases Nat.lt_or_ge (Nat.gcd k n) b with hl | hl
    · exact key _ om hl (Nat.gcd_dvd_right k n)
    · rcases Nat.lt_or_ge c b with hm | hm
      · exact key c hc2 hm ⟨Nat.gcd k n,by rw [Nat.mul_comm]; exact hc⟩
      · have:=Nat.mul_le_mul hl hm
        omega
def pm (n a:Nat):List Bool→Nat→Nat
  | [],r=>r
  | b::bs,r=>pm n a bs (if b then r*r%n*a%n else r*r%n)
def ev:List Bool→Nat→Nat
  | [],e=>e
  | b::bs,e=>ev bs (if b then 2*e+1 else 2*e)
theorem P6 (n a : Nat) : ∀ (bs : List Bool) (r e : Nat), r = a ^ e % n → pm n a bs r = a ^ (ev bs e) % n
  | [],_,_,h=>h
  | true::bs,r,e,h=>by
    rw [pm,ev]
    refine P6 n a bs _ _ ?_
    simp only [if_true]
    rw [h,Nat.pow_succ,Nat.two_mul,Nat.pow_add, ← Nat.mul_mod,Nat.mod_mul_mod]
  | false::bs,r,e,h=>by
    rw [pm,ev]
    refine P6 n a bs _ _ ?_
    simp only [Bool.false_eq_true,if_false]
    rw [h,Nat.two_mul,Nat.pow_add, ← Nat.mul_mod]
def G3:Nat→Nat→List Bool→List Bool
  | 0,_,l=>l
  | f+1,e,l=>G3 f (e / 2) (decide (e%2=1)::l)
theorem JM : ∀ (f e : Nat) (l : List Bool), e < 2 ^ f → ev (G3 f e l) 0 = ev l e
  | 0,e,l,h=>by
    have:e=0:=by simp at h; exact h
    rw [this]; rfl
  | f+1,e,l,h=>by
    rw [G3,JM f (e / 2) _ (by rw [Nat.pow_succ] at h; omega),ev]
    by_cases h1:e%2=1
    · rw [decide_eq_true h1,if_pos J]; congr 1; omega
    · rw [decide_eq_false h1]; simp only [Bool.false_eq_true,if_false]; congr 1; omega
theorem pow_is (f n a e:Nat) (h:e<2 ^ f) (hn:2≤n):pm n a (G3 f e []) 1=a ^ e%n:=by
  rw [P6 n a _ 1 0 (by rw [Nat.pow_zero,Nat.mod_eq_of_lt hn]),JM f e [] h]; rfl
theorem GA (f:Nat) {N q:Nat} (a:Nat) (hf:N<2 ^ f) (hq:Pr q) (hd:q ∣ N - 1) (h1:pm N a (G3 f (N - 1) []) 1=1) (hg:Nat.gcd (pm N a (G3 f ((N - 1) / q) []) 1+(N - 1)) N=1) (hN:2≤N) (r:Nat) (hr:Pr r) (hrN:r ∣ N):q ∣ r - 1:=by
  rw [pow_is f N a _ om hN] at h1
  rw [pow_is f N a _ (Nat.lt_of_le_of_lt (Nat.div_le_self _ _) om) hN] at hg
  exact P5 hq hd h1 hg hN r hr hrN
theorem Jv:Pr 107590001:=Eo (b:=10374) dZ dZ (by decide +kernel)
theorem Lr:Pr 7240687:=Eo (b:=2692) dZ dZ (by decide +kernel)
theorem P4:Pr 96557:=Eo (b:=312) dZ dZ (by decide +kernel)
theorem VP:Pr 255515944373312847190720520512484175977:=by
  refine UI (F:=107590001*(7240687*96557)) dZ (λr hr hrN=>?_) dZ
  have h0:=GA 128 2 dZ Jv dZ (by decide +kernel) (by decide +kernel) dZ r hr hrN
  have h1:=GA 128 2 dZ Lr dZ (by decide +kernel) (by decide +kernel) dZ r hr hrN
  have h2:=GA 128 2 dZ P4 dZ (by decide +kernel) (by decide +kernel) dZ r hr hrN
  exact Nat.Coprime.mul_dvd_of_dvd_of_dvd dZ h0 (Nat.Coprime.mul_dvd_of_dvd_of_dvd dZ h1 h2)
theorem WO:Pr 205115282021455665897114700593932402728804164701536103180137503955397371 :=
  UI (F:=255515944373312847190720520512484175977) dZ (λr hr hrN=>GA 237 2 dZ VP dZ (by decide +kernel) (by decide +kernel) dZ r hr hrN) dZ
theorem pr_p:Pr 115792089237316195423570985008687907853269984665640564039457584007908834671663 :=
  UI (F:=205115282021455665897114700593932402728804164701536103180137503955397371) dZ (λr hr hrN=>GA 256 2 dZ WO dZ (by decide +kernel) (by decide +kernel) dZ r hr hrN) dZ
end Nt
end
section
section
open Go.RowKit Go.Lib
def sqI (x:Nat):Nat→Nat
 | 0=>x
 | n+1=>Bm (sqI x n) (sqI x n)
theorem PY (x n:Nat) (hx:x<(2^256)):sqI x n<(2^256):=by
 cases n with
 | zero=>exact hx
 | succ n=>exact GL _ _
theorem Qc (x y:Nat):Bm x y%pM=x*y%pM:=by unfold Bm; rw [Nat.mod_mod]
theorem NL {a x y i j:Nat} (hx:x%pM=a ^ i%pM) (hy:y%pM=a ^ j%pM):Bm x y%pM=a ^ (i+j)%pM:=by
 rw [Qc,Nat.mul_mod,hx,hy, ← Nat.mul_mod, ← Nat.pow_add]
theorem Hl {a x i:Nat} (hx:x%pM=a ^ i%pM):∀ n,sqI x n%pM=a ^ (i*2 ^ n)%pM
 | 0=>by rw [Nat.pow_zero,Nat.mul_one]; exact hx
 | n+1=>by
  rw [sqI,NL (Hl hx n) (Hl hx n),Nat.pow_succ]
  congr 2
  rw [← Nat.mul_assoc,Nat.mul_two]
def jn (x d y:Nat):Nat:=Bm (sqI x d) y
theorem EJ (x d y:Nat):jn x d y<(2^256):=GL _ _
theorem DA {a x y i j d:Nat} (hx:x%pM=a ^ i%pM) (hy:y%pM=a ^ j%pM):jn x d y%pM=a ^ (i*2 ^ d+j)%pM:=NL (Hl hx d) hy
theorem H6 (w:World) (x d:Nat) (hx:x<(2^256)) (hd:d≤1000):Calls Tryz.prog 276 #[fv x,.int .i64 (d:Int)] w λe w'=>e=.returned (fv (sqI x d))∧Below w.heap.size w w':=by
 obtain ⟨x0,x1,x2,x3,fx⟩:=Ae x hx
 have FX:=Lib.hid fx
 have HX:=Lib.hid hx
 have HD:=Lib.hid hd
 have hd':(d:Int)≤1000:=om
 rw [fx]
 clear fx hx hd
 go_enter Tryz.func276,Tryz.ntmps276
 go_wp2_with fail
 go_loopw [6] (λi wr=>∃ k v:Nat,k≤d∧i=.int .i64 (k:Int)∧Hid (v=sqI x k)∧Below w.heap.size w wr∧Blk wr w.heap.size 55 (fcs v)∧Blk wr (w.heap.size+1) 55 #[.int .u64 0,.int .u64 0,.int .u64 0,.int .u64 0]) (λi _=>d - (intOf i).toNat)
 case atStart=>exact ⟨0,x,Nat.zero_le _,rfl,Lib.hid J,AZ w _ _,Blk.eq_ ((Blk.new w _ _).alloc _) (BV FX.out).symm,Ab w _ _ _⟩
 case round =>
  obtain ⟨k,v,hk,rfl,HV,hb,hB,hR⟩:=hrel
  have HL:Hid (v<(2^256)):=Lib.hid (by rw [HV.out]; exact PY x k HX.out)
  by_cases hlt:k<d
  ·have p1:(k:Int)<(d:Int):=om
   go_wp2_with (first | ((with_reducible refine AF (d:=some 8) ?_); refine AC J _ _ J w.heap.size rfl v _ _ _ hB (AS v) Af J kZ ?_) | ((with_reducible refine AF (d:=some 9) ?_); refine AC J _ _ J w.heap.size rfl v _ _ _ hB (AS v) Af J kZ ?_))
   refine (GM _ v v HL.out HL.out).mono ?_
   rintro e w1 ⟨rfl,hb1⟩
   obtain ⟨z,hz⟩:=xE (Bm v v)
   have HZ:=Lib.hid hz
   rw [← hz]
   clear hz
   have hB1:=Gr.blk hb1 hB
   have hR1:=Gr.blk hb1 hR
   have hbb:=Below.gr hb hb1
   clear hb hb1 hB hR
   go_wp2_with ((with_reducible refine AG ?_); refine AB J _ _ _ J w.heap.size (fcs z) J J _ _ hB1 kZ (by rfl) (AM _) ?_; intro w2 hL2 hB2 hK2; have hR2:=hK2 _ om _ _ hR1)
   go_roundw
   case rel=>exact ⟨k+1,z,by omega,by simp <;> rfl,Lib.hid (by rw [HZ.out,HV.out]; rfl),hbb.trans (hB2 _ om),hL2,hR2⟩
   case measure=>simp [intOf]; omega
  ·have p1:¬ (k:Int)<(d:Int):=om
   obtain rfl:k=d:=om
   go_wp2_with (first | ((with_reducible refine AF (d:=some 12) ?_); refine AC J _ _ J w.heap.size rfl v _ _ _ hB (AS v) Af J kZ ?_) | ((with_reducible refine AG ?_); refine AB J _ _ _ J (w.heap.size+1) (fcs v) J J _ _ hR kZ (by rfl) (AM _) ?_; intro w2 hL2 hB2 hK2))
   exact bodyPost_ret (results_cell_row J _ _ (w.heap.size+1) _ _ (0,0) _ J hL2 Af J kZ) rfl ⟨by rw [HV.out]; rfl,hb.trans (hB2 _ om)⟩
end
end
section
section
open Go.RowKit Go.Lib
theorem Hd {P:Program} {fn:Func} {p q r:Tmp} {ty:TypeId} (h:fn.results=#[.cell p ty,.cell q ty,.cell r ty]) (tmps:Array Value) (w:World) (g g2 g3:Nat) (t t2 t3:TypeId) (cs cs2 cs3:Array Value) (d:TypeDesc)
  (hp:tmps.getD p undef=pT g 0) (hg:Blk w g t cs) (hq:tmps.getD q undef=pT g2 0) (hg2:Blk w g2 t2 cs2) (hr:tmps.getD r undef=pT g3 0) (hg3:Blk w g3 t3 cs3)
  (hu:P.underlying ty=some d) (hd:(match d with | .struct _ | .array _ _=>true | _=>false)=true) (hi:(P.info? ty).map (·.size)=some cs.size) (hi2:(P.info? ty).map (·.size)=some cs2.size) (hi3:(P.info? ty).map (·.size)=some cs3.size) :
  (results fn tmps).run P w=.ok (.tuple #[.agg cs,.agg cs2,.agg cs3]) w:=by
 have hp':tmps[p]?.getD undef=pT g 0:=by simpa using hp
 have hq':tmps[q]?.getD undef=pT g2 0:=by simpa using hq
 have hr':tmps[r]?.getD undef=pT g3 0:=by simpa using hr
 simp [results,h,hp',hq',hr',asAddr,run_loadVar_row w g t ty cs (0,0) d hg hu hd hi,run_loadVar_row w g2 t2 ty cs2 (0,0) d hg2 hu hd hi2,run_loadVar_row w g3 t3 ty cs3 (0,0) d hg3 hu hd hi3,Result.andThen]
theorem Qt (w:World) (x d y:Nat) (hx:x<(2^256)) (hy:y<(2^256)) (hd:d≤1000):Calls Tryz.prog 275 #[fv x,.int .i64 (d:Int),fv y] w λe w'=>e=.returned (fv (jn x d y))∧Below w.heap.size w w':=by
 obtain ⟨s,hs⟩:=xE (sqI x d)
 obtain ⟨z,hz⟩:=xE (Bm s y)
 have hsl:s<(2^256):=by rw [hs]; exact PY x d hx
 have HZ:=Lib.hid (And.intro hs (And.intro hz (And.intro hsl (And.intro hx (And.intro hy hd)))))
 rw [show jn x d y=z by rw [hz,hs]; rfl]
 obtain ⟨x0,x1,x2,x3,fx⟩:=Ae x hx
 obtain ⟨y0,y1,y2,y3,fy⟩:=Ae y hy
 have FX:=Lib.hid fx
 have FY:=Lib.hid fy
 rw [fx,fy]
 clear fx fy hx hy hs hz hsl hd
 go_enter Tryz.func275,Tryz.ntmps275
 go_wp2
 refine AP (λj=>j == 5) kZ ?_
 try simp only [Act.put]
 refine tkw 0 J (YieldsG.loadF (by rfl) _ _ J w.heap.size rfl x _ _ (((Blk.new w _ _).alloc _).alloc _) FX.out Af J kZ) ?_
 try simp only [aPS]
 refine tk 1 J ?_
 try simp only [aPS]
 refine tkw 2 J (YieldsG.call (v:=fv s) (by rfl) 276 _ (λw9=>by go_simp; try rfl) (λw9 h9=>HZ.out.1 ▸ H6 w9 x d HZ.out.2.2.2.1 HZ.out.2.2.2.2.2)) ?_
 try simp only [aPS]
 refine tkw 3 J (YieldsG.loadF (by rfl) _ _ J (w.heap.size+1) rfl y _ _ ((Ab w _ _ _).alloc _) FY.out Af J kZ) ?_
 try simp only [aPS]
 refine tkw 4 J (YieldsG.call (v:=fv z) (by rfl) 233 _ (λw9=>by go_simp; try rfl) (λw9 h9=>HZ.out.2.1 ▸ GM w9 s y HZ.out.2.2.1 HZ.out.2.2.2.2.1)) ?_
 try simp only [aPS]
 refine CE 5 J kZ (by rfl) _ _ _ J (w.heap.size+2) (fcs z) J J _ _ (Ay w _ _ _ _) kZ (by rfl) (AM _) rfl (λw6 h6 w7 hB7 hL7=>?_)
 try simp only [Act.put]
 refine AO kZ (λw8 h8=>?_)
 have hfin:=Gr.blk h8 hL7
 have hb9:=(Below.gr (AY w _ _ _) h6).trans ((hB7 _ om).trans (Below.mono h8 (by have:=hL7.lt; omega)))
 go_wp2
 exact bodyPost_ret (results_cell_row J _ _ (w.heap.size+2) _ _ (0,0) _ J hfin Af J kZ) rfl ⟨rfl,hb9⟩
theorem Ce (w:World) (x d y z:Nat) (di:Int) (hdi:di=(d:Int)) (hz:z=jn x d y) (hx:x<(2^256)) (hy:y<(2^256)) (hd:d≤1000):Calls Tryz.prog 275 #[fv x,.int .i64 di,fv y] w λe w'=>e=.returned (fv z)∧Below w.heap.size w w':=by
 subst hdi hz
 exact Qt w x d y hx hy hd
theorem II (x:Nat):x%pM=x ^ 1%pM:=by rw [Nat.pow_one]
def Ju (x:Nat):Nat:=jn x 1 x
theorem Mw (x:Nat):Ju x<(2^256):=EJ _ _ _
def RJ:Nat:=1*2 ^ 1+1
theorem IF (x:Nat):Ju x%pM=x ^ RJ%pM:=by
 unfold Ju RJ
 exact DA (II x) (II x)
def Ep (x:Nat):Nat:=jn (Ju x) 1 x
theorem OV (x:Nat):Ep x<(2^256):=EJ _ _ _
def G1:Nat:=RJ*2 ^ 1+1
theorem EW (x:Nat):Ep x%pM=x ^ G1%pM:=by
 unfold Ep G1
 exact DA (IF x) (II x)
def P1 (x:Nat):Nat:=jn (Ep x) 3 (Ep x)
theorem R6 (x:Nat):P1 x<(2^256):=EJ _ _ _
def Uo:Nat:=G1*2 ^ 3+G1
theorem Pz (x:Nat):P1 x%pM=x ^ Uo%pM:=by
 unfold P1 Uo
 exact DA (EW x) (EW x)
def Ki (x:Nat):Nat:=jn (P1 x) 3 (Ep x)
theorem P2 (x:Nat):Ki x<(2^256):=EJ _ _ _
def RL:Nat:=Uo*2 ^ 3+G1
theorem OW (x:Nat):Ki x%pM=x ^ RL%pM:=by
 unfold Ki RL
 exact DA (Pz x) (EW x)
def E8 (x:Nat):Nat:=jn (Ki x) 2 (Ju x)
theorem Ln (x:Nat):E8 x<(2^256):=EJ _ _ _
def Hp:Nat:=RL*2 ^ 2+RJ
theorem G6 (x:Nat):E8 x%pM=x ^ Hp%pM:=by
 unfold E8 Hp
 exact DA (OW x) (IF x)
def F9 (x:Nat):Nat:=jn (E8 x) 11 (E8 x)
theorem Kh (x:Nat):F9 x<(2^256):=EJ _ _ _
def LI:Nat:=Hp*2 ^ 11+Hp
theorem Gp (x:Nat):F9 x%pM=x ^ LI%pM:=by
 unfold F9 LI
 exact DA (G6 x) (G6 x)
def Lo (x:Nat):Nat:=jn (F9 x) 22 (F9 x)
theorem R9 (x:Nat):Lo x<(2^256):=EJ _ _ _
def RN:Nat:=LI*2 ^ 22+LI
theorem IH (x:Nat):Lo x%pM=x ^ RN%pM:=by
 unfold Lo RN
 exact DA (Gp x) (Gp x)
def rM1 (x:Nat):Nat:=jn (Lo x) 44 (Lo x)
theorem UE (x:Nat):rM1 x<(2^256):=EJ _ _ _
def eM1:Nat:=RN*2 ^ 44+RN
theorem Mx (x:Nat):rM1 x%pM=x ^ eM1%pM:=by
 unfold rM1 eM1
 exact DA (IH x) (IH x)
def rM2 (x:Nat):Nat:=jn (rM1 x) 88 (rM1 x)
theorem UD (x:Nat):rM2 x<(2^256):=EJ _ _ _
def eM2:Nat:=eM1*2 ^ 88+eM1
theorem R8 (x:Nat):rM2 x%pM=x ^ eM2%pM:=by
 unfold rM2 eM2
 exact DA (Mx x) (Mx x)
def rM3 (x:Nat):Nat:=jn (rM2 x) 44 (Lo x)
theorem UC (x:Nat):rM3 x<(2^256):=EJ _ _ _
def eM3:Nat:=eM2*2 ^ 44+RN
theorem R7 (x:Nat):rM3 x%pM=x ^ eM3%pM:=by
 unfold rM3 eM3
 exact DA (R8 x) (IH x)
def IG (x:Nat):Nat:=jn (rM3 x) 3 (Ep x)
theorem Kj (x:Nat):IG x<(2^256):=EJ _ _ _
def RM:Nat:=eM3*2 ^ 3+G1
theorem OX (x:Nat):IG x%pM=x ^ RM%pM:=by
 unfold IG RM
 exact DA (R7 x) (EW x)
theorem Pf (w:World) (x:Nat) (hx:x<(2^256)):Calls Tryz.prog 274 #[fv x] w λe w'=>e=.returned (.tuple #[fv (Ju x),fv (F9 x),fv (IG x)])∧Below w.heap.size w w':=by
 obtain ⟨ztwo,hztwo⟩:=xE (Ju x)
 obtain ⟨zthree,hzthree⟩:=xE (Ep x)
 obtain ⟨zsix,hzsix⟩:=xE (P1 x)
 obtain ⟨znine,hznine⟩:=xE (Ki x)
 obtain ⟨zeleven,hzeleven⟩:=xE (E8 x)
 obtain ⟨zsome,hzsome⟩:=xE (F9 x)
 obtain ⟨zdbl,hzdbl⟩:=xE (Lo x)
 obtain ⟨zm1,hzm1⟩:=xE (rM1 x)
 obtain ⟨zm2,hzm2⟩:=xE (rM2 x)
 obtain ⟨zm3,hzm3⟩:=xE (rM3 x)
 obtain ⟨zmost,hzmost⟩:=xE (IG x)
 rw [← hztwo, ← hzsome, ← hzmost]
 have HX:=Lib.hid hx
 have HZtwo:Hid (ztwo=jn x 1 x∧ztwo<(2^256)):=Lib.hid ⟨by rw [hztwo]; rfl,by rw [hztwo]; exact Mw x⟩
 have HZthree:Hid (zthree=jn ztwo 1 x∧zthree<(2^256)):=Lib.hid ⟨by rw [hzthree,hztwo]; rfl,by rw [hzthree]; exact OV x⟩
 have HZsix:Hid (zsix=jn zthree 3 zthree∧zsix<(2^256)):=Lib.hid ⟨by rw [hzsix,hzthree]; rfl,by rw [hzsix]; exact R6 x⟩
 have HZnine:Hid (znine=jn zsix 3 zthree∧znine<(2^256)):=Lib.hid ⟨by rw [hznine,hzsix,hzthree]; rfl,by rw [hznine]; exact P2 x⟩
 have HZeleven:Hid (zeleven=jn znine 2 ztwo∧zeleven<(2^256)):=Lib.hid ⟨by rw [hzeleven,hznine,hztwo]; rfl,by rw [hzeleven]; exact Ln x⟩
 have HZsome:Hid (zsome=jn zeleven 11 zeleven∧zsome<(2^256)):=Lib.hid ⟨by rw [hzsome,hzeleven]; rfl,by rw [hzsome]; exact Kh x⟩
 have HZdbl:Hid (zdbl=jn zsome 22 zsome∧zdbl<(2^256)):=Lib.hid ⟨by rw [hzdbl,hzsome]; rfl,by rw [hzdbl]; exact R9 x⟩
 have HZm1:Hid (zm1=jn zdbl 44 zdbl∧zm1<(2^256)):=Lib.hid ⟨by rw [hzm1,hzdbl]; rfl,by rw [hzm1]; exact UE x⟩
 have HZm2:Hid (zm2=jn zm1 88 zm1∧zm2<(2^256)):=Lib.hid ⟨by rw [hzm2,hzm1]; rfl,by rw [hzm2]; exact UD x⟩
 have HZm3:Hid (zm3=jn zm2 44 zdbl∧zm3<(2^256)):=Lib.hid ⟨by rw [hzm3,hzm2,hzdbl]; rfl,by rw [hzm3]; exact UC x⟩
 have HZmost:Hid (zmost=jn zm3 3 zthree∧zmost<(2^256)):=Lib.hid ⟨by rw [hzmost,hzm3,hzthree]; rfl,by rw [hzmost]; exact Kj x⟩
 clear hztwo hzthree hzsix hznine hzeleven hzsome hzdbl hzm1 hzm2 hzm3 hzmost
 obtain ⟨x0,x1,x2,x3,fx⟩:=Ae x hx
 have FX:=Lib.hid fx
 rw [fx]
 clear fx hx
 go_enter Tryz.func274,Tryz.ntmps274
 go_wp2_with (first | ((with_reducible refine AF (d:=some 10) ?_); refine AC J _ _ J w.heap.size rfl x _ _ _ (Blk.eq_ ((((Blk.new w _ _).alloc _).alloc _).alloc _) (BV FX.out).symm) (AS x) Af J kZ ?_) | ((with_reducible refine AF (d:=some 11) ?_); refine AC J _ _ J w.heap.size rfl x _ _ _ (Blk.eq_ ((((Blk.new w _ _).alloc _).alloc _).alloc _) (BV FX.out).symm) (AS x) Af J kZ ?_))
 refine (Ce _ x 1 x ztwo 1 J HZtwo.out.1 HX.out HX.out om).mono ?_
 rintro e w10 ⟨rfl,hb⟩
 have B0_a:Blk w10 (w.heap.size) 55 _:=Gr.blk hb (Blk.eq_ ((((Blk.new w _ _).alloc _).alloc _).alloc _) (BV FX.out).symm)
 have l0_a:=B0_a.lt
 have B0_t2:Blk w10 (w.heap.size+1) 55 _:=Gr.blk hb (((Ab w _ _ _).alloc _).alloc _)
 have l0_t2:=B0_t2.lt
 have B0_t3:Blk w10 (w.heap.size+2) 55 _:=Gr.blk hb ((Ay w _ _ _ _).alloc _)
 have l0_t3:=B0_t3.lt
 have B0_t4:Blk w10 (w.heap.size+3) 55 _:=Gr.blk hb (Iq w _ _ _ _ _)
 have l0_t4:=B0_t4.lt
 have hB0:=Below.gr ((AY w _ _ _).alloc (by simp <;> omega) _) hb
 have sz0:=hB0.size
 clear hb
 go_wp2_with (first | ((with_reducible refine AG ?_); refine AB J _ _ _ J (w.heap.size+1) (fcs ztwo) J J _ _ B0_t2 kZ (by rfl) (AM _) ?_; intro v11 hL1 hq1 hK1; have C1_a:=hK1 _ om _ _ (B0_a); have C1_t3:=hK1 _ om _ _ (B0_t3); have C1_t4:=hK1 _ om _ _ (B0_t4); have hC1:=(hB0).trans (hq1 _ om)) | ((with_reducible refine AF (d:=some 13) ?_); refine AC J _ _ J (w.heap.size+1) rfl ztwo _ _ _ hL1 (AS ztwo) Af J kZ ?_) | ((with_reducible refine AF (d:=some 14) ?_); refine AC J _ _ J w.heap.size rfl x _ _ _ C1_a (AS x) Af J kZ ?_))
 refine (Ce _ ztwo 1 x zthree 1 J HZthree.out.1 HZtwo.out.2 HX.out om).mono ?_
 rintro e w11 ⟨rfl,hb⟩
 have B1_a:Blk w11 (w.heap.size) 55 _:=Gr.blk hb (C1_a)
 have l1_a:=B1_a.lt
 have B1_t3:Blk w11 (w.heap.size+2) 55 _:=Gr.blk hb (C1_t3)
 have l1_t3:=B1_t3.lt
 have B1_t4:Blk w11 (w.heap.size+3) 55 _:=Gr.blk hb (C1_t4)
 have l1_t4:=B1_t4.lt
 have B1_t2:Blk w11 (w.heap.size+1) 55 _:=Gr.blk hb (hL1)
 have l1_t2:=B1_t2.lt
 have hB1:=Below.gr (hC1) hb
 have sz1:=hB1.size
 clear hb
 go_wp2_with (first | ((with_reducible refine AG ?_); refine AB J _ _ _ J w11.heap.size (fcs zthree) J J _ _ (Blk.new w11 _ _) kZ (by rfl) (AM _) ?_; intro v12 hL2 hq2 hK2; have C2_a:=hK2 _ om _ _ ((B1_a).alloc _); have C2_t3:=hK2 _ om _ _ ((B1_t3).alloc _); have C2_t4:=hK2 _ om _ _ ((B1_t4).alloc _); have C2_t2:=hK2 _ om _ _ ((B1_t2).alloc _); have hC2:=(((hB1).alloc om _)).trans (hq2 _ om)) | ((with_reducible refine AF (d:=some 16) ?_); refine AC J _ _ J w11.heap.size rfl zthree _ _ _ hL2 (AS zthree) Af J kZ ?_) | ((with_reducible refine AF (d:=some 17) ?_); refine AC J _ _ J w11.heap.size rfl zthree _ _ _ hL2 (AS zthree) Af J kZ ?_))
 refine (Ce _ zthree 3 zthree zsix 3 J HZsix.out.1 HZthree.out.2 HZthree.out.2 om).mono ?_
 rintro e w12 ⟨rfl,hb⟩
 have B2_a:Blk w12 (w.heap.size) 55 _:=Gr.blk hb (C2_a)
 have l2_a:=B2_a.lt
 have B2_t3:Blk w12 (w.heap.size+2) 55 _:=Gr.blk hb (C2_t3)
 have l2_t3:=B2_t3.lt
 have B2_t4:Blk w12 (w.heap.size+3) 55 _:=Gr.blk hb (C2_t4)
 have l2_t4:=B2_t4.lt
 have B2_t2:Blk w12 (w.heap.size+1) 55 _:=Gr.blk hb (C2_t2)
 have l2_t2:=B2_t2.lt
 have B2_three:Blk w12 (w11.heap.size) 55 _:=Gr.blk hb (hL2)
 have l2_three:=B2_three.lt
 have hB2:=Below.gr (hC2) hb
 have sz2:=hB2.size
 clear hb
 go_wp2_with (first | ((with_reducible refine AG ?_); refine AB J _ _ _ J w12.heap.size (fcs zsix) J J _ _ (Blk.new w12 _ _) kZ (by rfl) (AM _) ?_; intro v13 hL3 hq3 hK3; have C3_a:=hK3 _ om _ _ ((B2_a).alloc _); have C3_t3:=hK3 _ om _ _ ((B2_t3).alloc _); have C3_t4:=hK3 _ om _ _ ((B2_t4).alloc _); have C3_t2:=hK3 _ om _ _ ((B2_t2).alloc _); have C3_three:=hK3 _ om _ _ ((B2_three).alloc _); have hC3:=(((hB2).alloc om _)).trans (hq3 _ om)) | ((with_reducible refine AF (d:=some 19) ?_); refine AC J _ _ J w12.heap.size rfl zsix _ _ _ hL3 (AS zsix) Af J kZ ?_) | ((with_reducible refine AF (d:=some 20) ?_); refine AC J _ _ J w11.heap.size rfl zthree _ _ _ C3_three (AS zthree) Af J kZ ?_))
 refine (Ce _ zsix 3 zthree znine 3 J HZnine.out.1 HZsix.out.2 HZthree.out.2 om).mono ?_
 rintro e w13 ⟨rfl,hb⟩
 have B3_a:Blk w13 (w.heap.size) 55 _:=Gr.blk hb (C3_a)
 have l3_a:=B3_a.lt
 have B3_t3:Blk w13 (w.heap.size+2) 55 _:=Gr.blk hb (C3_t3)
 have l3_t3:=B3_t3.lt
 have B3_t4:Blk w13 (w.heap.size+3) 55 _:=Gr.blk hb (C3_t4)
 have l3_t4:=B3_t4.lt
 have B3_t2:Blk w13 (w.heap.size+1) 55 _:=Gr.blk hb (C3_t2)
 have l3_t2:=B3_t2.lt
 have B3_three:Blk w13 (w11.heap.size) 55 _:=Gr.blk hb (C3_three)
 have l3_three:=B3_three.lt
 have B3_six:Blk w13 (w12.heap.size) 55 _:=Gr.blk hb (hL3)
 have l3_six:=B3_six.lt
 have hB3:=Below.gr (hC3) hb
 have sz3:=hB3.size
 clear hb
 go_wp2_with (first | ((with_reducible refine AG ?_); refine AB J _ _ _ J w13.heap.size (fcs znine) J J _ _ (Blk.new w13 _ _) kZ (by rfl) (AM _) ?_; intro v14 hL4 hq4 hK4; have C4_a:=hK4 _ om _ _ ((B3_a).alloc _); have C4_t3:=hK4 _ om _ _ ((B3_t3).alloc _); have C4_t4:=hK4 _ om _ _ ((B3_t4).alloc _); have C4_t2:=hK4 _ om _ _ ((B3_t2).alloc _); have C4_three:=hK4 _ om _ _ ((B3_three).alloc _); have C4_six:=hK4 _ om _ _ ((B3_six).alloc _); have hC4:=(((hB3).alloc om _)).trans (hq4 _ om)) | ((with_reducible refine AF (d:=some 22) ?_); refine AC J _ _ J w13.heap.size rfl znine _ _ _ hL4 (AS znine) Af J kZ ?_) | ((with_reducible refine AF (d:=some 23) ?_); refine AC J _ _ J (w.heap.size+1) rfl ztwo _ _ _ C4_t2 (AS ztwo) Af J kZ ?_))
 refine (Ce _ znine 2 ztwo zeleven 2 J HZeleven.out.1 HZnine.out.2 HZtwo.out.2 om).mono ?_
 rintro e w14 ⟨rfl,hb⟩
 have B4_a:Blk w14 (w.heap.size) 55 _:=Gr.blk hb (C4_a)
 have l4_a:=B4_a.lt
 have B4_t3:Blk w14 (w.heap.size+2) 55 _:=Gr.blk hb (C4_t3)
 have l4_t3:=B4_t3.lt
 have B4_t4:Blk w14 (w.heap.size+3) 55 _:=Gr.blk hb (C4_t4)
 have l4_t4:=B4_t4.lt
 have B4_t2:Blk w14 (w.heap.size+1) 55 _:=Gr.blk hb (C4_t2)
 have l4_t2:=B4_t2.lt
 have B4_three:Blk w14 (w11.heap.size) 55 _:=Gr.blk hb (C4_three)
 have l4_three:=B4_three.lt
 have B4_six:Blk w14 (w12.heap.size) 55 _:=Gr.blk hb (C4_six)
 have l4_six:=B4_six.lt
 have B4_nine:Blk w14 (w13.heap.size) 55 _:=Gr.blk hb (hL4)
 have l4_nine:=B4_nine.lt
 have hB4:=Below.gr (hC4) hb
 have sz4:=hB4.size
 clear hb
 go_wp2_with (first | ((with_reducible refine AG ?_); refine AB J _ _ _ J w14.heap.size (fcs zeleven) J J _ _ (Blk.new w14 _ _) kZ (by rfl) (AM _) ?_; intro v15 hL5 hq5 hK5; have C5_a:=hK5 _ om _ _ ((B4_a).alloc _); have C5_t3:=hK5 _ om _ _ ((B4_t3).alloc _); have C5_t4:=hK5 _ om _ _ ((B4_t4).alloc _); have C5_t2:=hK5 _ om _ _ ((B4_t2).alloc _); have C5_three:=hK5 _ om _ _ ((B4_three).alloc _); have C5_six:=hK5 _ om _ _ ((B4_six).alloc _); have C5_nine:=hK5 _ om _ _ ((B4_nine).alloc _); have hC5:=(((hB4).alloc om _)).trans (hq5 _ om)) | ((with_reducible refine AF (d:=some 25) ?_); refine AC J _ _ J w14.heap.size rfl zeleven _ _ _ hL5 (AS zeleven) Af J kZ ?_) | ((with_reducible refine AF (d:=some 26) ?_); refine AC J _ _ J w14.heap.size rfl zeleven _ _ _ hL5 (AS zeleven) Af J kZ ?_))
 refine (Ce _ zeleven 11 zeleven zsome 11 J HZsome.out.1 HZeleven.out.2 HZeleven.out.2 om).mono ?_
 rintro e w15 ⟨rfl,hb⟩
 have B5_a:Blk w15 (w.heap.size) 55 _:=Gr.blk hb (C5_a)
 have l5_a:=B5_a.lt
 have B5_t3:Blk w15 (w.heap.size+2) 55 _:=Gr.blk hb (C5_t3)
 have l5_t3:=B5_t3.lt
 have B5_t4:Blk w15 (w.heap.size+3) 55 _:=Gr.blk hb (C5_t4)
 have l5_t4:=B5_t4.lt
 have B5_t2:Blk w15 (w.heap.size+1) 55 _:=Gr.blk hb (C5_t2)
 have l5_t2:=B5_t2.lt
 have B5_three:Blk w15 (w11.heap.size) 55 _:=Gr.blk hb (C5_three)
 have l5_three:=B5_three.lt
 have B5_six:Blk w15 (w12.heap.size) 55 _:=Gr.blk hb (C5_six)
 have l5_six:=B5_six.lt
 have B5_nine:Blk w15 (w13.heap.size) 55 _:=Gr.blk hb (C5_nine)
 have l5_nine:=B5_nine.lt
 have B5_eleven:Blk w15 (w14.heap.size) 55 _:=Gr.blk hb (hL5)
 have l5_eleven:=B5_eleven.lt
 have hB5:=Below.gr (hC5) hb
 have sz5:=hB5.size
 clear hb
 go_wp2_with (first | ((with_reducible refine AG ?_); refine AB J _ _ _ J (w.heap.size+2) (fcs zsome) J J _ _ B5_t3 kZ (by rfl) (AM _) ?_; intro v16 hL6 hq6 hK6; have C6_a:=hK6 _ om _ _ (B5_a); have C6_t4:=hK6 _ om _ _ (B5_t4); have C6_t2:=hK6 _ om _ _ (B5_t2); have C6_three:=hK6 _ om _ _ (B5_three); have C6_six:=hK6 _ om _ _ (B5_six); have C6_nine:=hK6 _ om _ _ (B5_nine); have C6_eleven:=hK6 _ om _ _ (B5_eleven); have hC6:=(hB5).trans (hq6 _ om)) | ((with_reducible refine AF (d:=some 28) ?_); refine AC J _ _ J (w.heap.size+2) rfl zsome _ _ _ hL6 (AS zsome) Af J kZ ?_) | ((with_reducible refine AF (d:=some 29) ?_); refine AC J _ _ J (w.heap.size+2) rfl zsome _ _ _ hL6 (AS zsome) Af J kZ ?_))
 refine (Ce _ zsome 22 zsome zdbl 22 J HZdbl.out.1 HZsome.out.2 HZsome.out.2 om).mono ?_
 rintro e w16 ⟨rfl,hb⟩
 have B6_a:Blk w16 (w.heap.size) 55 _:=Gr.blk hb (C6_a)
 have l6_a:=B6_a.lt
 have B6_t4:Blk w16 (w.heap.size+3) 55 _:=Gr.blk hb (C6_t4)
 have l6_t4:=B6_t4.lt
 have B6_t2:Blk w16 (w.heap.size+1) 55 _:=Gr.blk hb (C6_t2)
 have l6_t2:=B6_t2.lt
 have B6_three:Blk w16 (w11.heap.size) 55 _:=Gr.blk hb (C6_three)
 have l6_three:=B6_three.lt
 have B6_six:Blk w16 (w12.heap.size) 55 _:=Gr.blk hb (C6_six)
 have l6_six:=B6_six.lt
 have B6_nine:Blk w16 (w13.heap.size) 55 _:=Gr.blk hb (C6_nine)
 have l6_nine:=B6_nine.lt
 have B6_eleven:Blk w16 (w14.heap.size) 55 _:=Gr.blk hb (C6_eleven)
 have l6_eleven:=B6_eleven.lt
 have B6_t3:Blk w16 (w.heap.size+2) 55 _:=Gr.blk hb (hL6)
 have l6_t3:=B6_t3.lt
 have hB6:=Below.gr (hC6) hb
 have sz6:=hB6.size
 clear hb
 go_wp2_with (first | ((with_reducible refine AG ?_); refine AB J _ _ _ J w16.heap.size (fcs zdbl) J J _ _ (Blk.new w16 _ _) kZ (by rfl) (AM _) ?_; intro v17 hL7 hq7 hK7; have C7_a:=hK7 _ om _ _ ((B6_a).alloc _); have C7_t4:=hK7 _ om _ _ ((B6_t4).alloc _); have C7_t2:=hK7 _ om _ _ ((B6_t2).alloc _); have C7_three:=hK7 _ om _ _ ((B6_three).alloc _); have C7_six:=hK7 _ om _ _ ((B6_six).alloc _); have C7_nine:=hK7 _ om _ _ ((B6_nine).alloc _); have C7_eleven:=hK7 _ om _ _ ((B6_eleven).alloc _); have C7_t3:=hK7 _ om _ _ ((B6_t3).alloc _); have hC7:=(((hB6).alloc om _)).trans (hq7 _ om)) | ((with_reducible refine AF (d:=some 31) ?_); refine AC J _ _ J w16.heap.size rfl zdbl _ _ _ hL7 (AS zdbl) Af J kZ ?_) | ((with_reducible refine AF (d:=some 32) ?_); refine AC J _ _ J w16.heap.size rfl zdbl _ _ _ hL7 (AS zdbl) Af J kZ ?_))
 refine (Ce _ zdbl 44 zdbl zm1 44 J HZm1.out.1 HZdbl.out.2 HZdbl.out.2 om).mono ?_
 rintro e w17 ⟨rfl,hb⟩
 have B7_a:Blk w17 (w.heap.size) 55 _:=Gr.blk hb (C7_a)
 have l7_a:=B7_a.lt
 have B7_t4:Blk w17 (w.heap.size+3) 55 _:=Gr.blk hb (C7_t4)
 have l7_t4:=B7_t4.lt
 have B7_t2:Blk w17 (w.heap.size+1) 55 _:=Gr.blk hb (C7_t2)
 have l7_t2:=B7_t2.lt
 have B7_three:Blk w17 (w11.heap.size) 55 _:=Gr.blk hb (C7_three)
 have l7_three:=B7_three.lt
 have B7_six:Blk w17 (w12.heap.size) 55 _:=Gr.blk hb (C7_six)
 have l7_six:=B7_six.lt
 have B7_nine:Blk w17 (w13.heap.size) 55 _:=Gr.blk hb (C7_nine)
 have l7_nine:=B7_nine.lt
 have B7_eleven:Blk w17 (w14.heap.size) 55 _:=Gr.blk hb (C7_eleven)
 have l7_eleven:=B7_eleven.lt
 have B7_t3:Blk w17 (w.heap.size+2) 55 _:=Gr.blk hb (C7_t3)
 have l7_t3:=B7_t3.lt
 have B7_dbl:Blk w17 (w16.heap.size) 55 _:=Gr.blk hb (hL7)
 have l7_dbl:=B7_dbl.lt
 have hB7:=Below.gr (hC7) hb
 have sz7:=hB7.size
 clear hb
 go_wp2_with (first | ((with_reducible refine AG ?_); refine AB J _ _ _ J (w.heap.size+3) (fcs zm1) J J _ _ B7_t4 kZ (by rfl) (AM _) ?_; intro v18 hL8 hq8 hK8; have C8_a:=hK8 _ om _ _ (B7_a); have C8_t2:=hK8 _ om _ _ (B7_t2); have C8_three:=hK8 _ om _ _ (B7_three); have C8_six:=hK8 _ om _ _ (B7_six); have C8_nine:=hK8 _ om _ _ (B7_nine); have C8_eleven:=hK8 _ om _ _ (B7_eleven); have C8_t3:=hK8 _ om _ _ (B7_t3); have C8_dbl:=hK8 _ om _ _ (B7_dbl); have hC8:=(hB7).trans (hq8 _ om)) | ((with_reducible refine AF (d:=some 34) ?_); refine AC J _ _ J (w.heap.size+3) rfl zm1 _ _ _ hL8 (AS zm1) Af J kZ ?_) | ((with_reducible refine AF (d:=some 35) ?_); refine AC J _ _ J (w.heap.size+3) rfl zm1 _ _ _ hL8 (AS zm1) Af J kZ ?_))
 refine (Ce _ zm1 88 zm1 zm2 88 J HZm2.out.1 HZm1.out.2 HZm1.out.2 om).mono ?_
 rintro e w18 ⟨rfl,hb⟩
 have B8_a:Blk w18 (w.heap.size) 55 _:=Gr.blk hb (C8_a)
 have l8_a:=B8_a.lt
 have B8_t2:Blk w18 (w.heap.size+1) 55 _:=Gr.blk hb (C8_t2)
 have l8_t2:=B8_t2.lt
 have B8_three:Blk w18 (w11.heap.size) 55 _:=Gr.blk hb (C8_three)
 have l8_three:=B8_three.lt
 have B8_six:Blk w18 (w12.heap.size) 55 _:=Gr.blk hb (C8_six)
 have l8_six:=B8_six.lt
 have B8_nine:Blk w18 (w13.heap.size) 55 _:=Gr.blk hb (C8_nine)
 have l8_nine:=B8_nine.lt
 have B8_eleven:Blk w18 (w14.heap.size) 55 _:=Gr.blk hb (C8_eleven)
 have l8_eleven:=B8_eleven.lt
 have B8_t3:Blk w18 (w.heap.size+2) 55 _:=Gr.blk hb (C8_t3)
 have l8_t3:=B8_t3.lt
 have B8_dbl:Blk w18 (w16.heap.size) 55 _:=Gr.blk hb (C8_dbl)
 have l8_dbl:=B8_dbl.lt
 have B8_t4:Blk w18 (w.heap.size+3) 55 _:=Gr.blk hb (hL8)
 have l8_t4:=B8_t4.lt
 have hB8:=Below.gr (hC8) hb
 have sz8:=hB8.size
 clear hb
 go_wp2_with (first | ((with_reducible refine AG ?_); refine AB J _ _ _ J (w.heap.size+3) (fcs zm2) J J _ _ B8_t4 kZ (by rfl) (AM _) ?_; intro v19 hL9 hq9 hK9; have C9_a:=hK9 _ om _ _ (B8_a); have C9_t2:=hK9 _ om _ _ (B8_t2); have C9_three:=hK9 _ om _ _ (B8_three); have C9_six:=hK9 _ om _ _ (B8_six); have C9_nine:=hK9 _ om _ _ (B8_nine); have C9_eleven:=hK9 _ om _ _ (B8_eleven); have C9_t3:=hK9 _ om _ _ (B8_t3); have C9_dbl:=hK9 _ om _ _ (B8_dbl); have hC9:=(hB8).trans (hq9 _ om)) | ((with_reducible refine AF (d:=some 37) ?_); refine AC J _ _ J (w.heap.size+3) rfl zm2 _ _ _ hL9 (AS zm2) Af J kZ ?_) | ((with_reducible refine AF (d:=some 38) ?_); refine AC J _ _ J w16.heap.size rfl zdbl _ _ _ C9_dbl (AS zdbl) Af J kZ ?_))
 refine (Ce _ zm2 44 zdbl zm3 44 J HZm3.out.1 HZm2.out.2 HZdbl.out.2 om).mono ?_
 rintro e w19 ⟨rfl,hb⟩
 have B9_a:Blk w19 (w.heap.size) 55 _:=Gr.blk hb (C9_a)
 have l9_a:=B9_a.lt
 have B9_t2:Blk w19 (w.heap.size+1) 55 _:=Gr.blk hb (C9_t2)
 have l9_t2:=B9_t2.lt
 have B9_three:Blk w19 (w11.heap.size) 55 _:=Gr.blk hb (C9_three)
 have l9_three:=B9_three.lt
 have B9_six:Blk w19 (w12.heap.size) 55 _:=Gr.blk hb (C9_six)
 have l9_six:=B9_six.lt
 have B9_nine:Blk w19 (w13.heap.size) 55 _:=Gr.blk hb (C9_nine)
 have l9_nine:=B9_nine.lt
 have B9_eleven:Blk w19 (w14.heap.size) 55 _:=Gr.blk hb (C9_eleven)
 have l9_eleven:=B9_eleven.lt
 have B9_t3:Blk w19 (w.heap.size+2) 55 _:=Gr.blk hb (C9_t3)
 have l9_t3:=B9_t3.lt
 have B9_dbl:Blk w19 (w16.heap.size) 55 _:=Gr.blk hb (C9_dbl)
 have l9_dbl:=B9_dbl.lt
 have B9_t4:Blk w19 (w.heap.size+3) 55 _:=Gr.blk hb (hL9)
 have l9_t4:=B9_t4.lt
 have hB9:=Below.gr (hC9) hb
 have sz9:=hB9.size
 clear hb
 go_wp2_with (first | ((with_reducible refine AG ?_); refine AB J _ _ _ J (w.heap.size+3) (fcs zm3) J J _ _ B9_t4 kZ (by rfl) (AM _) ?_; intro v20 hL10 hq10 hK10; have C10_a:=hK10 _ om _ _ (B9_a); have C10_t2:=hK10 _ om _ _ (B9_t2); have C10_three:=hK10 _ om _ _ (B9_three); have C10_six:=hK10 _ om _ _ (B9_six); have C10_nine:=hK10 _ om _ _ (B9_nine); have C10_eleven:=hK10 _ om _ _ (B9_eleven); have C10_t3:=hK10 _ om _ _ (B9_t3); have C10_dbl:=hK10 _ om _ _ (B9_dbl); have hC10:=(hB9).trans (hq10 _ om)) | ((with_reducible refine AF (d:=some 40) ?_); refine AC J _ _ J (w.heap.size+3) rfl zm3 _ _ _ hL10 (AS zm3) Af J kZ ?_) | ((with_reducible refine AF (d:=some 41) ?_); refine AC J _ _ J w11.heap.size rfl zthree _ _ _ C10_three (AS zthree) Af J kZ ?_))
 refine (Ce _ zm3 3 zthree zmost 3 J HZmost.out.1 HZm3.out.2 HZthree.out.2 om).mono ?_
 rintro e w20 ⟨rfl,hb⟩
 have B10_a:Blk w20 (w.heap.size) 55 _:=Gr.blk hb (C10_a)
 have l10_a:=B10_a.lt
 have B10_t2:Blk w20 (w.heap.size+1) 55 _:=Gr.blk hb (C10_t2)
 have l10_t2:=B10_t2.lt
 have B10_three:Blk w20 (w11.heap.size) 55 _:=Gr.blk hb (C10_three)
 have l10_three:=B10_three.lt
 have B10_six:Blk w20 (w12.heap.size) 55 _:=Gr.blk hb (C10_six)
 have l10_six:=B10_six.lt
 have B10_nine:Blk w20 (w13.heap.size) 55 _:=Gr.blk hb (C10_nine)
 have l10_nine:=B10_nine.lt
 have B10_eleven:Blk w20 (w14.heap.size) 55 _:=Gr.blk hb (C10_eleven)
 have l10_eleven:=B10_eleven.lt
 have B10_t3:Blk w20 (w.heap.size+2) 55 _:=Gr.blk hb (C10_t3)
 have l10_t3:=B10_t3.lt
 have B10_dbl:Blk w20 (w16.heap.size) 55 _:=Gr.blk hb (C10_dbl)
 have l10_dbl:=B10_dbl.lt
 have B10_t4:Blk w20 (w.heap.size+3) 55 _:=Gr.blk hb (hL10)
 have l10_t4:=B10_t4.lt
 have hB10:=Below.gr (hC10) hb
 have sz10:=hB10.size
 clear hb
 go_wp2_with ((with_reducible refine AG ?_); refine AB J _ _ _ J (w.heap.size+3) (fcs zmost) J J _ _ B10_t4 kZ (by rfl) (AM _) ?_; intro v21 hL11 hq11 hK11; have C11_a:=hK11 _ om _ _ (B10_a); have C11_t2:=hK11 _ om _ _ (B10_t2); have C11_three:=hK11 _ om _ _ (B10_three); have C11_six:=hK11 _ om _ _ (B10_six); have C11_nine:=hK11 _ om _ _ (B10_nine); have C11_eleven:=hK11 _ om _ _ (B10_eleven); have C11_t3:=hK11 _ om _ _ (B10_t3); have C11_dbl:=hK11 _ om _ _ (B10_dbl); have hC11:=(hB10).trans (hq11 _ om))
 refine AP (λ_=>false) kZ ?_
 try simp only [Act.put]
 refine tkw 0 J (YieldsG.loadF (by rfl) _ _ J (w.heap.size+1) rfl ztwo _ _ C11_t2 (AS _) Af J kZ) ?_
 try simp only [aPS]
 refine tkw 1 J (YieldsG.loadF (by rfl) _ _ J (w.heap.size+2) rfl zsome _ _ C11_t3 (AS _) Af J kZ) ?_
 try simp only [aPS]
 refine tkw 2 J (YieldsG.loadF (by rfl) _ _ J (w.heap.size+3) rfl zmost _ _ hL11 (AS _) Af J kZ) ?_
 try simp only [aPS]
 refine tkw 3 J (YieldsG.again (by rfl) _ _ _ J (w.heap.size+1) (fcs ztwo) J J _ C11_t2 kZ (AM _)) ?_
 try simp only [Act.put]
 refine tkw 4 J (YieldsG.again (by rfl) _ _ _ J (w.heap.size+2) (fcs zsome) J J _ C11_t3 kZ (AM _)) ?_
 try simp only [Act.put]
 refine tkw 5 J (YieldsG.again (by rfl) _ _ _ J (w.heap.size+3) (fcs zmost) J J _ hL11 kZ (AM _)) ?_
 try simp only [Act.put]
 refine AO kZ (λu hu=>?_)
 have hbz:=Below.gr (hC11) hu
 have Et2:=Gr.blk hu C11_t2
 have Et3:=Gr.blk hu C11_t3
 have Et4:=Gr.blk hu hL11
 go_wp2
 exact bodyPost_ret (Hd J _ _ (w.heap.size+1) (w.heap.size+2) (w.heap.size+3) _ _ _ _ _ _ _ J Et2 J Et3 J Et4 Af J kZ kZ kZ) rfl ⟨rfl,hbz⟩
end
end
section
section
open Go.RowKit Go.Lib
theorem Fh:∀ (xs ys:List Nat),xs.length=ys.length→((List.range xs.length).all λi=>xs.getD i 0 == ys.getD i 0)=(xs == ys)
 | [],[],_=>rfl
 | x::xs,y::ys,h=>by
  have ih:=Fh xs ys (by simpa using h)
  rw [List.length_cons,List.range_succ_eq_map,List.all_cons,List.all_map]
  simp only [List.getD_cons_zero,Function.comp_def,List.getD_cons_succ,ih]
  simp [List.cons_beq_cons]
 | [],_::_,h=>by simp at h
 | _::_,[],h=>by simp at h
theorem Bu {P:Program} (w:World) (d:Nat) (t e:TypeId) (n:Nat) (ht:P.underlying t=some (.array n e)) (he:P.underlying e=some (.int .u64)) (hsz:∀ w,(sizeOf e).run P w=.ok 1 w)
  (xs ys:List Nat) (hx:xs.length=n) (hy:ys.length=n) :
  (Op.equalIn (d+2) t (.agg (xs.map qv).toArray) (.agg (ys.map qv).toArray)).run P w=.ok (xs == ys) w:=by
 rw [← Fh xs ys (hx.trans hy.symm),hx,List.range_eq_range',Op.equalIn]
 simp only [Sem.run_bind,run_underlying ht,Result.andThen_ok,hsz,Std.Legacy.Range.forIn_eq_forIn_range',Std.Legacy.Range.size,Nat.sub_zero,Nat.add_sub_cancel,Nat.div_one]
 have hl:∀ i∈List.range' 0 n 1,i<n:=λi hi=>by simpa using (List.mem_range'_1.1 hi).2
 generalize List.range' 0 n 1=l at hl ⊢
 induction l with
 | nil=>simp
 | cons i l ih =>
  have hi:i<n:=hl i (by simp)
  have px:(part e (xs.map qv).toArray (i*1)).run P w=.ok (qv (xs.getD i 0)) w:=by
   simp [part,isAgg,run_underlying he,List.getD,List.getElem?_eq_getElem (show i<xs.length by omega)]
  have py:(part e (ys.map qv).toArray (i*1)).run P w=.ok (qv (ys.getD i 0)) w:=by
   simp [part,isAgg,run_underlying he,List.getD,List.getElem?_eq_getElem (show i<ys.length by omega)]
  have pe:(Op.equalIn (d+1) e (qv (xs.getD i 0)) (qv (ys.getD i 0))).run P w=.ok (xs.getD i 0 == ys.getD i 0) w:=by
   rw [qv,qv,run_equalIn_int w d e .u64 .u64 _ _ he]
   congr 1
   rw [Bool.eq_iff_iff]
   simp
   omega
  simp only [List.forIn_cons,Sem.run_bind,px,py,pe,Result.andThen_ok,List.all_cons]
  cases hb:(xs.getD i 0 == ys.getD i 0)
  ·simp
  ·simp only [Bool.not_true,Bool.false_eq_true,if_false,Sem.run_pure,Result.andThen_ok,Bool.true_and]
   exact ih λj hj=>hl j (by simp [hj])
def wl (n:Nat):List Nat:=[n%18446744073709551616,n / 18446744073709551616%18446744073709551616,n / 340282366920938463463374607431768211456%18446744073709551616,n / 6277101735386680763835789423207666416102355444464034512896%18446744073709551616]
theorem C5 (n:Nat):fv n=.agg ((wl n).map qv).toArray:=rfl
theorem T4 {n m:Nat} (hn:n<(2^256)) (hm:m<(2^256)) (h:wl n=wl m):n=m:=by
 unfold wl at h
 simp only [List.cons.injEq,and_true] at h
 obtain ⟨h0,h1,h2,h3⟩:=h
 omega
theorem Hu {n m:Nat} (hn:n<(2^256)) (hm:m<(2^256)):(wl n == wl m)=decide (n=m):=by
 by_cases h:n=m
 ·subst h; simp
 ·have:wl n≠wl m:=λe=>h (T4 hn hm e)
  simp [h,this]
theorem BO (W:World) (n m:Nat) (hn:n<(2^256)) (hm:m<(2^256)):(Op.equalIn 10000 55 (fv n) (fv m)).run Tryz.prog W=.ok (decide (n=m)) W:=by
 rw [C5,C5]
 have h:=Bu W 9998 55 22 4 Af CD (λW=>kZ) (wl n) (wl m) rfl J
 rw [Hu hn hm] at h
 exact h
theorem run_eql_fv (W:World) (n m:Nat) (hn:n<(2^256)) (hm:m<(2^256)):(binOp .eql 55 (fv n) (fv m)).run Tryz.prog W=.ok (.bool (decide (n=m))) W:=by
 have h:=BO W n m hn hm
 rw [C5,C5] at h ⊢
 rw [run_eql_struct,h]
 rfl
theorem run_neq_fv (W:World) (n m:Nat) (hn:n<(2^256)) (hm:m<(2^256)):(binOp .neq 55 (fv n) (fv m)).run Tryz.prog W=.ok (.bool (decide (n≠m))) W:=by
 have h:=BO W n m hn hm
 rw [C5,C5] at h ⊢
 rw [run_neq_struct,h]
 by_cases e:n=m <;> simp [e]
theorem run_eqGuard_fv (op:BinOp) (x y:Operand) (n m:Nat) (W:World):(eqGuard op 55 x y (fv n) (fv m)).run Tryz.prog W=.ok () W:=by
 rw [AS,AS]
 go_simp
theorem TM (n:Nat) (hn:n<18446744073709551616):bits .and .u64 (n:Int) 1=((n%2:Nat):Int):=by
 have h:=bits_and_u64_nat n 1 hn om
 have e:n &&& 1=n%2:=Nat.and_two_pow_sub_one_eq_mod n 1
 rw [e] at h
 exact h
theorem NH (w:World) (x:Nat) (hx:x<(2^256)):Calls Tryz.prog 228 #[fv x] w λe w'=>e=.returned (.bool (decide (x%pM%2=1)))∧Below w.heap.size w w':=by
 obtain ⟨z,hz⟩:=xE (x%pM)
 have hzl:z<(2^256):=by rw [hz]; exact mod_lt x
 obtain ⟨z0,z1,z2,z3,a0,a1,a2,a3,ez,fz⟩:=Ah z hzl
 obtain ⟨o,ho⟩:=xE (z%2)
 have h1:bits .and .u64 (z0:Int) 1=(o:Int):=by rw [TM z0 a0,ho]; congr 1; omega
 have hN:∀ w,Calls Tryz.prog 232 #[fv x] w λe w'=>e=.returned (.agg #[.int .u64 z0,.int .u64 z1,.int .u64 z2,.int .u64 z3])∧Below w.heap.size w w':=by
  intro w; rw [← fz,hz]; exact norm_any w x hx
 obtain ⟨x0,x1,x2,x3,fx⟩:=Ae x hx
 rw [fx] at hN ⊢
 rw [← hz, ← ho]
 have hol:o<2:=om
 obtain ⟨b,hb⟩:=xE (decide (o=1))
 have hob:((o:Int) == 1)=b:=by
  rw [hb]
  rcases (show o=0∨o=1 by omega) with rfl|rfl <;> rfl
 rw [← hb]
 clear fx hx hz hzl ez fz ho a0 a1 a2 a3 hb hol
 have hI:∀ W,(Instr.index 55 (.agg #[.int .u64 z0,.int .u64 z1,.int .u64 z2,.int .u64 z3]) (.int .i64 0)).run Tryz.prog W=.ok (.int .u64 (z0:Int)) W:=λW=>by kernel_rfl
 go_enter Tryz.func228,Tryz.ntmps228
 go_wp2_with fail
 refine (hN _).mono ?_
 rintro e w1 ⟨rfl,hb1⟩
 go_wp2
 go_ret
 exact ⟨rfl,Below.gr ((Below.refl _ _).alloc (Nat.le_refl _) _) hb1⟩
end
end
section
section
open Go.RowKit Go.Lib
def rZ1 (x:Nat):Nat:=jn (IG x) 23 (F9 x)
def rZ2 (x:Nat):Nat:=jn (rZ1 x) 6 (Ju x)
def BK (x:Nat):Nat:=sqI (rZ2 x) 2
theorem Ka (x:Nat):BK x<(2^256):=GL _ _
theorem C8 (x:Nat):BK x%pM=BK x:=by
 have h:BK x=sqI (rZ2 x) 1*sqI (rZ2 x) 1%pM:=rfl
 rw [h,Nat.mod_mod]
def RK:Nat:=((RM*2 ^ 23+LI)*2 ^ 6+RJ)*2 ^ 2
theorem JA (x:Nat):BK x%pM=x ^ RK%pM:=by
 unfold BK RK
 exact Hl (DA (DA (OX x) (Gp x)) (IF x)) 2
def Br (x:Nat):Nat×Bool:=if Bm (BK x) (BK x)≠x%pM then (0,false) else if BK x%pM%2=1 then (C2 (BK x),true) else (BK x,true)
theorem KU (w:World) (x:Nat) (hx:x<(2^256)):Calls Tryz.prog 253 #[fv x] w λe w'=>e=.returned (.tuple #[fv (Br x).1,.bool (Br x).2])∧Below w.heap.size w w':=by
 obtain ⟨z2,hz2⟩:=xE (Ju x)
 obtain ⟨zs,hzs⟩:=xE (F9 x)
 obtain ⟨zm,hzm⟩:=xE (IG x)
 obtain ⟨y1,hy1⟩:=xE (rZ1 x)
 obtain ⟨y2,hy2⟩:=xE (rZ2 x)
 obtain ⟨r,hr⟩:=xE (BK x)
 obtain ⟨m,hm⟩:=xE (Bm r r)
 obtain ⟨n,hn⟩:=xE (x%pM)
 obtain ⟨g,hg⟩:=xE (C2 r)
 have hrl:r<(2^256):=by rw [hr]; exact Ka x
 have hml:m<(2^256):=by rw [hm]; exact GL _ _
 have hnl:n<(2^256):=by rw [hn]; exact mod_lt x
 have cR:∀ w,Calls Tryz.prog 274 #[fv x] w λe w'=>e=.returned (.tuple #[fv z2,fv zs,fv zm])∧Below w.heap.size w w':=by
  intro w; rw [hz2,hzs,hzm]; exact Pf w x hx
 have c1:=λw=>Ce w zm 23 zs y1 23 J (by rw [hzm,hzs,hy1]; rfl) (by rw [hzm]; exact Kj x) (by rw [hzs]; exact Kh x) om
 have c2:=λw=>Ce w y1 6 z2 y2 6 J (by rw [hy1,hz2,hy2]; rfl) (by rw [hy1]; exact EJ _ _ _) (by rw [hz2]; exact Mw x) om
 have c3:∀ w,Calls Tryz.prog 276 #[fv y2,.int .i64 2] w λe w'=>e=.returned (fv r)∧Below w.heap.size w w':=by
  intro w; rw [hr,BK, ← hy2]; exact H6 w y2 2 (by rw [hy2]; exact EJ _ _ _) om
 have cm:∀ w,Calls Tryz.prog 233 #[fv r,fv r] w λe w'=>e=.returned (fv m)∧Below w.heap.size w w':=by
  intro w; rw [hm]; exact GM w r r hrl hrl
 have cn:∀ w,Calls Tryz.prog 232 #[fv x] w λe w'=>e=.returned (fv n)∧Below w.heap.size w w':=by
  intro w; rw [hn]; exact norm_any w x hx
 obtain ⟨o,ho⟩:=xE (decide (r%pM%2=1))
 have co:∀ w,Calls Tryz.prog 228 #[fv r] w λe w'=>e=.returned (.bool o)∧Below w.heap.size w w':=by
  intro w; rw [ho]; exact NH w r hrl
 have cg:∀ w,Calls Tryz.prog 254 #[fv r] w λe w'=>e=.returned (fv g)∧Below w.heap.size w w':=by
  intro w; rw [hg]; exact Kv w r hrl
 obtain ⟨b,hb⟩:=xE (decide (m≠n))
 have eb:∀ W,(binOp .neq 55 (fv m) (fv n)).run Tryz.prog W=.ok (.bool b) W:=λW=>by rw [hb]; exact run_neq_fv W m n hml hnl
 have hS:Br x=if b=true then (0,false) else if o=true then (g,true) else (r,true):=by
  unfold Br
  rw [← hr, ← hm, ← hn, ← hg,hb,ho]
  by_cases h1:m=n <;> by_cases h2:r%pM%2=1 <;> simp [h1,h2]
 obtain ⟨x0,x1,x2,x3,fx⟩:=Ae x hx
 have FX:=Lib.hid fx
 rw [fx] at cR ⊢
 rw [hS]
 clear fx hx hz2 hzs hzm hy1 hy2 hr hm hn hg hrl hml hnl ho hb hS
 go_enter Tryz.func253,Tryz.ntmps253
 go_wp2_with fail
 refine (cR _).mono ?_
 rintro e w10 ⟨rfl,hb⟩
 have B0_a:Blk w10 (w.heap.size) 55 _:=Gr.blk hb (Blk.eq_ ((Blk.new w _ _).alloc _) (BV FX.out).symm)
 have l0_a:=B0_a.lt
 have B0_t2:Blk w10 (w.heap.size+1) 55 _:=Gr.blk hb (Ab w _ _ _)
 have l0_t2:=B0_t2.lt
 have hB0:=Below.gr (AZ w _ _) hb
 have sz0:=hB0.size
 clear hb
 go_wp2_with (first | ((with_reducible refine AG ?_); refine AB J _ _ _ J w10.heap.size (fcs z2) J J _ _ (((Blk.new w10 _ _).alloc _).alloc _) kZ (by rfl) (AM _) ?_; intro v11t4 hLt4 hqt4 hKt4; have Ct4_a:=hKt4 _ om _ _ ((((B0_a).alloc _).alloc _).alloc _); have Ct4_t2:=hKt4 _ om _ _ ((((B0_t2).alloc _).alloc _).alloc _); have Ct4_t5:=hKt4 _ om _ _ ((Ab w10 _ _ _).alloc _); have Ct4_t6:=hKt4 _ om _ _ (Ay w10 _ _ _ _); have hCt4:=((((hB0).alloc om _).alloc (by simp <;> omega) _).alloc (by simp <;> omega) _).trans (hqt4 _ om)) | ((with_reducible refine AG ?_); refine AB J _ _ _ J (w10.heap.size+1) (fcs zs) J J _ _ Ct4_t5 kZ (by rfl) (AM _) ?_; intro v11t5 hLt5 hqt5 hKt5; have Ct5_a:=hKt5 _ om _ _ (Ct4_a); have Ct5_t2:=hKt5 _ om _ _ (Ct4_t2); have Ct5_t6:=hKt5 _ om _ _ (Ct4_t6); have Ct5_t4:=hKt5 _ om _ _ (hLt4); have hCt5:=(hCt4).trans (hqt5 _ om)) | ((with_reducible refine AG ?_); refine AB J _ _ _ J (w10.heap.size+2) (fcs zm) J J _ _ Ct5_t6 kZ (by rfl) (AM _) ?_; intro v11t6 hLt6 hqt6 hKt6; have Ct6_a:=hKt6 _ om _ _ (Ct5_a); have Ct6_t2:=hKt6 _ om _ _ (Ct5_t2); have Ct6_t4:=hKt6 _ om _ _ (Ct5_t4); have Ct6_t5:=hKt6 _ om _ _ (hLt5); have hCt6:=(hCt5).trans (hqt6 _ om)) | ((with_reducible refine AF (d:=some 14) ?_); refine AC J _ _ J (w10.heap.size+2) rfl zm _ _ _ hLt6 (AS zm) Af J kZ ?_) | ((with_reducible refine AF (d:=some 15) ?_); refine AC J _ _ J (w10.heap.size+1) rfl zs _ _ _ Ct6_t5 (AS zs) Af J kZ ?_))
 refine (c1 _).mono ?_
 rintro e w11 ⟨rfl,hb⟩
 have B1_a:Blk w11 (w.heap.size) 55 _:=Gr.blk hb (Ct6_a)
 have l1_a:=B1_a.lt
 have B1_t2:Blk w11 (w.heap.size+1) 55 _:=Gr.blk hb (Ct6_t2)
 have l1_t2:=B1_t2.lt
 have B1_t4:Blk w11 (w10.heap.size) 55 _:=Gr.blk hb (Ct6_t4)
 have l1_t4:=B1_t4.lt
 have B1_t5:Blk w11 (w10.heap.size+1) 55 _:=Gr.blk hb (Ct6_t5)
 have l1_t5:=B1_t5.lt
 have B1_t6:Blk w11 (w10.heap.size+2) 55 _:=Gr.blk hb (hLt6)
 have l1_t6:=B1_t6.lt
 have hB1:=Below.gr (hCt6) hb
 have sz1:=hB1.size
 clear hb
 go_wp2_with (first | ((with_reducible refine AG ?_); refine AB J _ _ _ J w11.heap.size (fcs y1) J J _ _ (Blk.new w11 _ _) kZ (by rfl) (AM _) ?_; intro v12 hL2 hq2 hK2; have C2_a:=hK2 _ om _ _ ((B1_a).alloc _); have C2_t2:=hK2 _ om _ _ ((B1_t2).alloc _); have C2_t4:=hK2 _ om _ _ ((B1_t4).alloc _); have C2_t5:=hK2 _ om _ _ ((B1_t5).alloc _); have C2_t6:=hK2 _ om _ _ ((B1_t6).alloc _); have hC2:=(((hB1).alloc om _)).trans (hq2 _ om)) | ((with_reducible refine AF (d:=some 17) ?_); refine AC J _ _ J w11.heap.size rfl y1 _ _ _ hL2 (AS y1) Af J kZ ?_) | ((with_reducible refine AF (d:=some 18) ?_); refine AC J _ _ J w10.heap.size rfl z2 _ _ _ C2_t4 (AS z2) Af J kZ ?_))
 refine (c2 _).mono ?_
 rintro e w12 ⟨rfl,hb⟩
 have B2_a:Blk w12 (w.heap.size) 55 _:=Gr.blk hb (C2_a)
 have l2_a:=B2_a.lt
 have B2_t2:Blk w12 (w.heap.size+1) 55 _:=Gr.blk hb (C2_t2)
 have l2_t2:=B2_t2.lt
 have B2_t4:Blk w12 (w10.heap.size) 55 _:=Gr.blk hb (C2_t4)
 have l2_t4:=B2_t4.lt
 have B2_t5:Blk w12 (w10.heap.size+1) 55 _:=Gr.blk hb (C2_t5)
 have l2_t5:=B2_t5.lt
 have B2_t6:Blk w12 (w10.heap.size+2) 55 _:=Gr.blk hb (C2_t6)
 have l2_t6:=B2_t6.lt
 have B2_t7:Blk w12 (w11.heap.size) 55 _:=Gr.blk hb (hL2)
 have l2_t7:=B2_t7.lt
 have hB2:=Below.gr (hC2) hb
 have sz2:=hB2.size
 clear hb
 go_wp2_with (first | ((with_reducible refine AG ?_); refine AB J _ _ _ J w11.heap.size (fcs y2) J J _ _ B2_t7 kZ (by rfl) (AM _) ?_; intro v13 hL3 hq3 hK3; have C3_a:=hK3 _ om _ _ (B2_a); have C3_t2:=hK3 _ om _ _ (B2_t2); have C3_t4:=hK3 _ om _ _ (B2_t4); have C3_t5:=hK3 _ om _ _ (B2_t5); have C3_t6:=hK3 _ om _ _ (B2_t6); have hC3:=(hB2).trans (hq3 _ om)) | ((with_reducible refine AF (d:=some 20) ?_); refine AC J _ _ J w11.heap.size rfl y2 _ _ _ hL3 (AS y2) Af J kZ ?_))
 refine (c3 _).mono ?_
 rintro e w13 ⟨rfl,hb⟩
 have B3_a:Blk w13 (w.heap.size) 55 _:=Gr.blk hb (C3_a)
 have l3_a:=B3_a.lt
 have B3_t2:Blk w13 (w.heap.size+1) 55 _:=Gr.blk hb (C3_t2)
 have l3_t2:=B3_t2.lt
 have B3_t4:Blk w13 (w10.heap.size) 55 _:=Gr.blk hb (C3_t4)
 have l3_t4:=B3_t4.lt
 have B3_t5:Blk w13 (w10.heap.size+1) 55 _:=Gr.blk hb (C3_t5)
 have l3_t5:=B3_t5.lt
 have B3_t6:Blk w13 (w10.heap.size+2) 55 _:=Gr.blk hb (C3_t6)
 have l3_t6:=B3_t6.lt
 have B3_t7:Blk w13 (w11.heap.size) 55 _:=Gr.blk hb (hL3)
 have l3_t7:=B3_t7.lt
 have hB3:=Below.gr (hC3) hb
 have sz3:=hB3.size
 clear hb
 go_wp2_with ((with_reducible refine AG ?_); refine AB J _ _ _ J w11.heap.size (fcs r) J J _ _ B3_t7 kZ (by rfl) (AM _) ?_; intro v14 hL4 hq4 hK4; have C4_a:=hK4 _ om _ _ (B3_a); have C4_t2:=hK4 _ om _ _ (B3_t2); have C4_t4:=hK4 _ om _ _ (B3_t4); have C4_t5:=hK4 _ om _ _ (B3_t5); have C4_t6:=hK4 _ om _ _ (B3_t6); have hC4:=(hB3).trans (hq4 _ om))
 refine AP (λ_=>false) kZ ?_
 try simp only [Act.put]
 refine tkw 0 J (YieldsG.loadF (by rfl) _ _ J w11.heap.size rfl r _ _ hL4 (AS _) Af J kZ) ?_
 try simp only [aPS]
 refine tkw 1 J (YieldsG.loadF (by rfl) _ _ J w11.heap.size rfl r _ _ hL4 (AS _) Af J kZ) ?_
 try simp only [aPS]
 refine tkw 2 J (YieldsG.call (v:=fv m) (by rfl) 233 _ (λw9=>by go_simp; try rfl) (λw9 h9=>cm w9)) ?_
 try simp only [aPS]
 refine tkw 3 J (YieldsG.loadF (by rfl) _ _ J w.heap.size rfl x _ _ C4_a (AS _) Af J kZ) ?_
 try simp only [aPS]
 refine tkw 4 J (YieldsG.call (v:=fv n) (by rfl) 232 _ (λw9=>by go_simp; try rfl) (λw9 h9=>cn w9)) ?_
 try simp only [aPS]
 refine tkw 5 J (YieldsG.pure (v:=.bool b) (by rfl) (λw9 h9=>by go_simp; rw [run_eqGuard_fv]; simp only [Result.andThen_ok])) ?_
 try simp only [aPS]
 refine AO kZ (λu hu=>?_)
 have hbu:=Below.gr (hC4) hu
 have Et2:=Gr.blk hu C4_t2
 have lt2:=Et2.lt
 have Et7:=Gr.blk hu hL4
 have lt7:=Et7.lt
 clear eb cm cn c1 c2 c3 cR
 cases b
 ·skip
  go_wp2_with ((with_reducible refine AF (d:=some 29) ?_); refine AC J _ _ J w11.heap.size rfl r _ _ _ Et7 (AS r) Af J kZ ?_)
  refine (co _).mono ?_
  rintro e w30 ⟨rfl,hb⟩
  have B20_t2:Blk w30 (w.heap.size+1) 55 _:=Gr.blk hb (Et2)
  have l20_t2:=B20_t2.lt
  have B20_t7:Blk w30 (w11.heap.size) 55 _:=Gr.blk hb (Et7)
  have l20_t7:=B20_t7.lt
  have hB20:=Below.gr (hbu) hb
  have sz20:=hB20.size
  clear hb
  cases o
  ·skip
   go_wp2_with (first | ((with_reducible refine AF (d:=some 33) ?_); refine AC J _ _ J w11.heap.size rfl r _ _ _ B20_t7 (AS r) Af J kZ ?_) | ((with_reducible refine AG ?_); refine AB J _ _ _ J (w.heap.size+1) (fcs r) J J _ _ B20_t2 kZ (by rfl) (AM _) ?_; intro v31 hL21 hq21 hK21; have C21_t7:=hK21 _ om _ _ (B20_t7); have hC21:=(hB20).trans (hq21 _ om)))
   exact bodyPost_ret (Av J _ _ (w.heap.size+1) _ _ _ _ J hL21 J Af J kZ) rfl ⟨rfl,hC21⟩
  ·skip
   go_wp2_with ((with_reducible refine AF (d:=some 31) ?_); refine AC J _ _ J w11.heap.size rfl r _ _ _ B20_t7 (AS r) Af J kZ ?_)
   refine (cg _).mono ?_
   rintro e w31 ⟨rfl,hb⟩
   have B21_t2:Blk w31 (w.heap.size+1) 55 _:=Gr.blk hb (B20_t2)
   have l21_t2:=B21_t2.lt
   have B21_t7:Blk w31 (w11.heap.size) 55 _:=Gr.blk hb (B20_t7)
   have l21_t7:=B21_t7.lt
   have hB21:=Below.gr (hB20) hb
   have sz21:=hB21.size
   clear hb
   go_wp2_with (first | ((with_reducible refine AG ?_); refine AB J _ _ _ J w11.heap.size (fcs g) J J _ _ B21_t7 kZ (by rfl) (AM _) ?_; intro v32 hL22 hq22 hK22; have C22_t2:=hK22 _ om _ _ (B21_t2); have hC22:=(hB21).trans (hq22 _ om)) | ((with_reducible refine AF (d:=some 33) ?_); refine AC J _ _ J w11.heap.size rfl g _ _ _ hL22 (AS g) Af J kZ ?_) | ((with_reducible refine AG ?_); refine AB J _ _ _ J (w.heap.size+1) (fcs g) J J _ _ C22_t2 kZ (by rfl) (AM _) ?_; intro vz hLz hqz hKz))
   exact bodyPost_ret (Av J _ _ (w.heap.size+1) _ _ _ _ J hLz J Af J kZ) rfl ⟨rfl,(hC22).trans (hqz _ om)⟩
 ·skip
  go_wp2_with ((with_reducible refine AG ?_); refine AB J _ _ _ J (w.heap.size+1) _ J J _ _ Et2 kZ (by rfl) (by simp [Value.oneCell']) ?_; intro vz hLz hqz hKz)
  exact bodyPost_ret (Av J _ _ (w.heap.size+1) _ _ _ _ J hLz J Af J kZ) rfl ⟨rfl,hbu.trans (hqz _ om)⟩
end
end
section
section
open Go.RowKit Go.Lib
end
end
section
namespace Cu
open Go.RowKit Sy
instance npM:NeZero pM:=⟨by unfold pM; decide⟩
abbrev Fp:=Fin pM
theorem VU:pM<(2^256):=by rw [EG]; decide
theorem lt4 (a:Fp):a.val<(2^256):=Nat.lt_trans a.isLt VU
def nat (k:Nat) (h:k<pM):Fp:=⟨k,h⟩
theorem JX (a:Fp):C2 a.val=(-a).val:=by
 have hb:=a.isLt
 show (pM - a.val%pM)%pM=(pM - a.val)%pM
 rw [Nat.mod_eq_of_lt hb]
theorem Qa (a b:Fp) (w:World):Calls Tryz.prog 233 #[fv a.val,fv b.val] w (Ai w (fv (a*b).val)):=GM w a.val b.val (lt4 a) (lt4 b)
theorem V7 (a b:Fp) (w:World):Calls Tryz.prog 262 #[fv a.val,fv b.val] w (Ai w (fv (a+b).val)):=Rk w a.val b.val (lt4 a) (lt4 b)
theorem Te (a:Fp) (w:World):Calls Tryz.prog 254 #[fv a.val] w (Ai w (fv (-a).val)):=by rw [← JX]; exact Kv w a.val (lt4 a)
theorem WR (k:Nat) (h:k<pM) (hk:k<18446744073709551616) (w:World):Calls Tryz.prog 263 #[.int .u64 (k:Int)] w (Ai w (fv (nat k h).val)):=UV w k hk
theorem RU (p q r x:Nat) (hp:Nt.Pr p) (hq:p - 1=3*q) (h3:x ^ 3%p=r) (hx:x%p≠0):r ^ q%p=1:=by
 have:=Nt.flt hp x hx
 rw [hq,Nat.pow_mul,Nat.pow_mod,h3] at this
 exact this
def Je:Nat:=38597363079105398474523661669562635951089994888546854679819194669302944890554
theorem OD:pM - 1=3*Je:=by decide +kernel
theorem SY:(pM - 7) ^ Je%pM≠1:=by
 rw [← Nt.pow_is 256 pM (pM - 7) Je (by decide +kernel) (by decide +kernel)]
 decide +kernel
theorem UZ (x y:Fp) (h:y*y=x*x*x+7):y≠0:=by
 rintro rfl
 have hx:x≠0:=by
  rintro rfl
  have:=congrArg Fin.val h
  exact absurd this (by decide +kernel)
 have ha:x.val%pM≠0:=by
  rw [Nat.mod_eq_of_lt x.isLt]
  exact λe=>hx (Fin.ext e)
 have h3:x.val ^ 3%pM=pM - 7:=by
  have h4:x*x*x=⟨pM - 7,by decide +kernel⟩:=by
   have e7:(⟨pM - 7,by decide +kernel⟩:Fp) = -7:=by decide +kernel
   rw [e7]
   clear ha hx
   grobner
  have h5:=congrArg Fin.val h4
  have h6:(x*x*x).val=x.val ^ 3%pM:=by
   show x.val*x.val%pM*x.val%pM=x.val ^ 3%pM
   rw [Nat.mod_mul_mod,show x.val ^ 3=x.val*x.val*x.val by rw [Nat.pow_succ,Nat.pow_succ,Nat.pow_one]]
  rw [← h6,h5]
 exact SY (RU pM Je _ x.val Nt.pr_p OD h3 ha)
end Cu
end
section
namespace Nm
open Go.RowKit Go.Lib
theorem BO (W:World) (n m:Nat) (hn:n<(2^256)) (hm:m<(2^256)):(Op.equalIn 10000 359 (fv n) (fv m)).run Tryz.prog W=.ok (decide (n=m)) W:=by
 rw [C5,C5]
 have h:=Bu W 9998 359 22 4 AU CD (λW=>kZ) (wl n) (wl m) rfl J
 rw [Hu hn hm] at h
 exact h
theorem run_eql_fv (W:World) (n m:Nat) (hn:n<(2^256)) (hm:m<(2^256)):(binOp .eql 359 (fv n) (fv m)).run Tryz.prog W=.ok (.bool (decide (n=m))) W:=by
 have h:=BO W n m hn hm
 rw [C5,C5] at h ⊢
 rw [run_eql_struct,h]
 rfl
theorem run_neq_fv (W:World) (n m:Nat) (hn:n<(2^256)) (hm:m<(2^256)):(binOp .neq 359 (fv n) (fv m)).run Tryz.prog W=.ok (.bool (decide (n≠m))) W:=by
 have h:=BO W n m hn hm
 rw [C5,C5] at h ⊢
 rw [run_neq_struct,h]
 by_cases e:n=m <;> simp [e]
theorem run_eqGuard_fv (op:BinOp) (x y:Operand) (n m:Nat) (W:World):(eqGuard op 359 x y (fv n) (fv m)).run Tryz.prog W=.ok () W:=by
 rw [AS,AS]
 go_simp
end Nm
end
section
namespace Cu
open Go.RowKit Sy
abbrev Pt:=Ec.Pt pM
abbrev K4:Nat:=(2^256)
def fws (n:Nat):List Value:=[qv (n%18446744073709551616),qv (n / 18446744073709551616%18446744073709551616),qv (n / 340282366920938463463374607431768211456%18446744073709551616),qv (n / 6277101735386680763835789423207666416102355444464034512896%18446744073709551616)]
theorem Uj (n:Nat):fv n=.agg (fws n).toArray:=rfl
def pcs (x y:Nat) (i:Bool):Array Value:=(fws x++(fws y++[Value.bool i])).toArray
def pv (x y:Nat) (i:Bool):Value:=.agg (pcs x y i)
def rightB (x y:Nat) (i:Bool):Bool:=if i then (decide (x=0) && decide (y=0)) else decide (x<pM) && decide (y<pM) && decide (y*y%pM=(x*x%pM*x%pM+7)%pM)
def dec (x y:Nat) (i:Bool):Pt:=if h:i=false∧x<pM∧y<pM∧y*y%pM=(x*x%pM*x%pM+7)%pM then some (⟨x,h.2.1⟩,⟨y,h.2.2.1⟩) else none
def ptv:Pt→Value
 | none=>pv 0 0 true
 | some (x,y)=>pv x.val y.val false
theorem S' (x y:Fp) (h:y*y=x*x*x+7):dec x.val y.val false=some (x,y):=by
 unfold dec
 rw [dif_pos ⟨rfl,x.isLt,y.isLt,congrArg Fin.val h⟩]
theorem Nj (x y:Nat):dec x y true=none:=by
 unfold dec
 rw [dif_neg (by simp)]
theorem LM:dec 0 0 true=none:=Nj 0 0
theorem O7 (x y:Nat) (h:rightB x y false=true):∃ (hx:x<pM) (hy:y<pM),dec x y false=some (⟨x,hx⟩,⟨y,hy⟩):=by
 unfold rightB at h
 simp only [Bool.false_eq_true,if_false,Bool.and_eq_true,decide_eq_true_eq] at h
 refine ⟨h.1.1,h.1.2,?_⟩
 unfold dec
 rw [dif_pos ⟨rfl,h.1.1,h.1.2,h.2⟩]
theorem O6 (x y:Nat) (i:Bool) (h:rightB x y i=false):dec x y i=none:=by
 unfold rightB at h
 unfold dec
 rw [dif_neg]
 rintro ⟨rfl,h1,h2,h3⟩
 simp [h1,h2,h3] at h
theorem JE (x y:Nat) (i:Bool) (h:rightB x y i=true):ptv (dec x y i)=pv x y i:=by
 cases i
 ·obtain ⟨hx,hy,e⟩:=O7 x y h
  rw [e]; rfl
 ·unfold rightB at h
  simp only [if_true,Bool.and_eq_true,decide_eq_true_eq] at h
  rw [Nj,h.1,h.2]; rfl
theorem JD (x y:Nat) (i:Bool) (h:rightB x y i=false):ptv (dec x y i)=pv 0 0 true:=by rw [O6 x y i h]; rfl
theorem Hn (P:Pt) (h:Ec.On P):∃ x y i,x<K4∧y<K4∧ptv P=pv x y i∧dec x y i=P∧rightB x y i=true:=by
 rcases P with _ | ⟨x,y⟩
 ·exact ⟨0,0,true,by decide,by decide,rfl,LM,rfl⟩
 ·refine ⟨x.val,y.val,false,lt4 x,lt4 y,rfl,S' x y h,?_⟩
  unfold rightB
  rw [if_neg (by simp)]
  simp only [Bool.and_eq_true,decide_eq_true_eq]
  exact ⟨⟨x.isLt,y.isLt⟩,congrArg Fin.val h⟩
theorem part_fe (cs:Array Value) (o:Nat) (W:World):(part 55 cs o).run Tryz.prog W=.ok (.agg (cs.extract o (o+4))) W:=by
 have h1:=Tryz.isAgg55
 have h2:=Tryz.sizeOf55
 simp [part,h1,h2,go_sem]
theorem part_bool (cs:Array Value) (o:Nat) (b:Bool) (hb:cs[o]? = some (.bool b)) (W:World):(part 4 cs o).run Tryz.prog W=.ok (.bool b) W:=by
 have h1:=Tryz.isAgg4
 simp [part,h1,hb,go_sem]
theorem pcs_x (x y:Nat) (i:Bool):(pcs x y i).extract 0 (0+4)=fcs x:=rfl
theorem pcs_y (x y:Nat) (i:Bool):(pcs x y i).extract 4 (4+4)=fcs y:=rfl
theorem pcs_i (x y:Nat) (i:Bool):(pcs x y i)[8]? = some (.bool i):=rfl
theorem JO (W:World) (n m:Nat) (hn:n<K4) (hm:m<K4):(Op.equalIn 9999 55 (.agg (fcs n)) (.agg (fcs m))).run Tryz.prog W=.ok (decide (n=m)) W:=by
 have h:=Bu W 9997 55 22 4 Af CD (λW=>kZ) (wl n) (wl m) rfl J
 rw [Hu hn hm] at h
 exact h
theorem eql_bool_at (W:World) (a b:Bool):(Op.equalIn 9999 4 (.bool a) (.bool b)).run Tryz.prog W=.ok (a == b) W:=by
 cases a <;> cases b <;> kernel_rfl
def sameB (x y:Nat) (i:Bool) (u v:Nat) (j:Bool):Bool:=decide (x=u) && (decide (y=v) && (i == j))
theorem run_eql_pv (W:World) (x y:Nat) (i:Bool) (u v:Nat) (j:Bool) (hx:x<K4) (hy:y<K4) (hu:u<K4) (hv:v<K4) :
  (binOp .eql 57 (pv x y i) (pv u v j)).run Tryz.prog W=.ok (.bool (sameB x y i u v j)) W:=by
 have hS:Tryz.prog.underlying 57=some (.struct (Tryz.prog.fieldsOf 57)):=kZ
 have hpp:Tryz.prog.stoodInHeld 57=false:=kZ
 unfold pv
 rw [run_eql_struct,show (10000:Nat)=9999+1 from rfl,run_equalIn_struct W 9999 57 _ _ hS hpp]
 simp only [Program.fieldsOf,Am]
 have a1:∀ W,(part 55 (pcs x y i) 0).run Tryz.prog W=.ok (.agg (fcs x)) W:=λW=>by rw [part_fe,pcs_x]
 have a2:∀ W,(part 55 (pcs u v j) 0).run Tryz.prog W=.ok (.agg (fcs u)) W:=λW=>by rw [part_fe,pcs_x]
 have a3:∀ W,(part 55 (pcs x y i) 4).run Tryz.prog W=.ok (.agg (fcs y)) W:=λW=>by rw [part_fe,pcs_y]
 have a4:∀ W,(part 55 (pcs u v j) 4).run Tryz.prog W=.ok (.agg (fcs v)) W:=λW=>by rw [part_fe,pcs_y]
 have a5:∀ W,(part 4 (pcs x y i) 8).run Tryz.prog W=.ok (.bool i) W:=λW=>part_bool _ 8 i (pcs_i x y i) W
 have a6:∀ W,(part 4 (pcs u v j) 8).run Tryz.prog W=.ok (.bool j) W:=λW=>part_bool _ 8 j (pcs_i u v j) W
 have e1:∀ W,_:=λW=>JO W x u hx hu
 have e2:∀ W,_:=λW=>JO W y v hy hv
 have e3:∀ W,_:=λW=>eql_bool_at W i j
 unfold sameB
 generalize decide (x=u)=b1 at *
 generalize decide (y=v)=b2 at *
 generalize (i == j)=b3 at *
 cases b1 <;> cases b2 <;> cases b3 <;> simp [Op.eqFields,a1,a2,a3,a4,a5,a6,e1,e2,e3,Sem.run_bind,Sem.run_ite]
theorem run_eqGuard_pv (op:BinOp) (x y:Operand) (a b:Nat) (i:Bool) (u v:Nat) (j:Bool) (W:World):(eqGuard op 57 x y (pv a b i) (pv u v j)).run Tryz.prog W=.ok () W:=by
 unfold pv
 go_simp
end Cu
end
section
namespace Cu
open Go.RowKit
theorem lK {n:Nat} (h:n<K4:=by first | assumption | exact lt4 _ | decide +kernel):n<K4:=h
end Cu
end
section
namespace Cu
open Go.RowKit Sy
theorem Me (w:World) (F:AJ) (o:Oper) (x y:Operand) (n m:Nat) {yt:TypeId} (ho:o.op=.binOp .eql 55 x y yt) (hx:evF F x=fv n) (hy:evF F y=fv m) (hn:n<K4) (hm:m<K4):(execOp (evF F) o).run Tryz.prog w=.ok (.value (.bool (decide (n=m)))) w:=by
 have h1:=run_eqGuard_fv .eql x y n m w
 have h2:=run_eql_fv w n m hn hm
 unfold execOp
 simp only [ho,hx,hy,Sem.run_bind,h1,h2,Result.andThen_ok,Sem.run_pure]
theorem eql_pt (w:World) (F:AJ) (o:Oper) (x y:Operand) (a b:Nat) (i:Bool) (c d:Nat) (j:Bool) {yt:TypeId} (ho:o.op=.binOp .eql 57 x y yt) (hx:evF F x=pv a b i) (hy:evF F y=pv c d j) (ha:a<K4) (hb:b<K4) (hc:c<K4) (hd:d<K4):(execOp (evF F) o).run Tryz.prog w=.ok (.value (.bool (sameB a b i c d j))) w:=by
 have h1:=run_eqGuard_pv .eql x y a b i c d j w
 have h2:=run_eql_pv w a b i c d j ha hb hc hd
 unfold execOp
 simp only [ho,hx,hy,Sem.run_bind,h1,h2,Result.andThen_ok,Sem.run_pure]
theorem zero_c (w:World)  : AL 197 #[] w (Ai w (pv 0 0 true)):=by
 refine Sy.enter (args:=[]) Tryz.func197 J kL<|sC<|sM 57 (pcs 0 0 false) (λg0=>?_)
 refine sA<|sP (pv 0 0 true)<|sw 0 J (pcs 0 0 true) (wA J)<|sG<|Sy.ret ?_
 exact rc (v:=pv 0 0 true) 0 J J Am
theorem H5 (w:World) (x:Fp):AL 234 #[fv x.val] w (Ai w (fv (x*x*x+7).val)):=by
 refine Sy.enter (args:=[fv x.val]) Tryz.func234 J kL<|sC<|sM 55 (fcs x.val) (λg0=>?_)
 refine sM 55 (fcs 0) (λg1=>?_)
 refine sH (λj=>j == 7) ?_
 refine sD 0 J (fv x.val) (qk 0 0 4 J J Af)<|sD 1 J (fv x.val) (qk 0 0 4 J J Af) ?_
 obtain ⟨z1,hz1⟩:∃ z:Fp,z=x*x:=⟨_,rfl⟩
 refine sD 2 J (fv z1.val) (qf (by rw [hz1]; exact Qa x x))<|sD 3 J (fv x.val) (qk 0 0 4 J J Af) ?_
 obtain ⟨z2,hz2⟩:∃ z:Fp,z=z1*x:=⟨_,rfl⟩
 refine sD 4 J (fv z2.val) (qf (by rw [hz2]; exact Qa z1 x)) ?_
 obtain ⟨z3,hz3⟩:∃ z:Fp,z=(nat 7 (by decide +kernel):Fp):=⟨_,rfl⟩
 refine sD 5 J (fv z3.val) (qf (by rw [hz3]; exact WR 7 (by decide +kernel) dZ)) ?_
 obtain ⟨z4,hz4⟩:∃ z:Fp,z=z2+z3:=⟨_,rfl⟩
 refine sD 6 J (fv z4.val) (qf (by rw [hz4]; exact V7 z2 z3))<|sx 7 J 1 J (fcs z4.val) (wA J)<|sI<|Sy.ret ?_
 rw [show (fv (x*x*x+7).val:Value)=fv z4.val from by rw [hz4,hz3,hz2,hz1]; rfl]
 exact rc (v:=fv z4.val) 1 J J Af
theorem H' (x y:Nat):sameB x y true 0 0 true=rightB x y true:=by
 unfold sameB rightB
 simp
theorem Tj {x z:Nat} (h1:z=x%pM) (h2:true=decide (z=x)):∃ u:Fp,x=u.val:=by
 have h3:=dY h2
 exact ⟨⟨x,by rw [← h3,h1]; exact Bw x⟩,rfl⟩
theorem QV {x z:Nat} (h1:z=x%pM) (h2:false=decide (z=x)):¬ x<pM:=λh=>by
 rw [h1,Nat.mod_eq_of_lt h] at h2
 simp at h2
theorem VN {x:Nat} (h:¬ x<pM) (y:Nat):rightB x y false=false:=by unfold rightB; simp [h]
theorem VM {y:Nat} (h:¬ y<pM) (x:Nat):rightB x y false=false:=by unfold rightB; simp [h]
theorem Ta (x y:Fp):rightB x.val y.val false=decide ((y*y).val=(x*x*x+7).val):=by
 unfold rightB
 simp only [Bool.false_eq_true,if_false,x.isLt,y.isLt,decide_true,Bool.true_and]
 rfl
theorem right_b (w:World) (x y:Nat) (i:Bool) (hx:x<K4) (hy:y<K4):AL 196 #[pv x y i] w (Ai w (.bool (rightB x y i))):=by
 refine Sy.enter (args:=[pv x y i]) Tryz.func196 J kL<|sC<|sM 57 (pcs x y i) (λg0=>?_)
 refine sP (.bool false)<|sG<|Sy.seq<|sC<|sP (pT g0 8)<|sS (.bool i) (qc 0 8 J J uy4)<|sG ?_
 cases i
 ·refine sU<|Sy.skip ?_
  refine sR (λj=>false) ?_
  refine sZ 0 J (pT g0 0)<|sD 1 J (fv x) (qk 0 0 4 J J Af) ?_
  obtain ⟨z1,hz1⟩:∃ z:Nat,z=x%pM:=⟨_,rfl⟩
  have lz1:z1<K4:=by rw [hz1]; exact mod_lt x
  refine sD 2 J (fv z1) (qf (λw=>by rw [hz1]; exact norm_any w x (by first | assumption | exact lt4 _)))<|sZ 3 J (pT g0 0)<|sD 4 J (fv x) (qk 0 0 4 J J Af) ?_
  obtain ⟨b1,hb1⟩:=xE (decide (z1=x))
  refine sD 5 J (.bool b1) (Quiet.pure (λw=>by rw [hb1]; exact Me w _ _ _ _ _ _ J J J lK lK))<|sZ 6 J (.bool b1) ?_
  cases b1
  ·refine sQ 7 J<|sQ 8 J<|sQ 9 J<|sQ 10 J<|sQ 11 J<|sQ 12 J<|sZ 13 J (.bool false)<|sZ 14 J (.bool false) ?_
   refine sE<|sR (λj=>false) ?_
   refine sZ 0 J (.bool false)<|sZ 1 J (.bool false)<|sQ 2 J<|sQ 3 J<|sQ 4 J<|sQ 5 J<|sQ 6 J<|sQ 7 J<|sQ 8 J<|sQ 9 J<|sQ 10 J<|sZ 11 J (.bool false)<|sZ 12 J (.bool false)<|sI<|Sy.ret ?_
   rw [show (.bool (rightB x y false):Value)=.bool false from by rw [VN (QV hz1 hb1)]]
   exact rV (.bool false) rfl
  ·obtain ⟨ux,rfl⟩:=Tj hz1 hb1
   refine sZ 7 J (pT g0 4)<|sD 8 J (fv y) (qk 0 4 4 J J Af) ?_
   obtain ⟨z2,hz2⟩:∃ z:Nat,z=y%pM:=⟨_,rfl⟩
   have lz2:z2<K4:=by rw [hz2]; exact mod_lt y
   refine sD 9 J (fv z2) (qf (λw=>by rw [hz2]; exact norm_any w y (by first | assumption | exact lt4 _)))<|sZ 10 J (pT g0 4)<|sD 11 J (fv y) (qk 0 4 4 J J Af) ?_
   obtain ⟨b2,hb2⟩:=xE (decide (z2=y))
   refine sD 12 J (.bool b2) (Quiet.pure (λw=>by rw [hb2]; exact Me w _ _ _ _ _ _ J J J lK lK))<|sZ 13 J (.bool b2)<|sZ 14 J (.bool b2)<|sE<|sR (λj=>false) ?_
   refine sZ 0 J (.bool b2)<|sZ 1 J (.bool b2) ?_
   cases b2
   ·refine sQ 2 J<|sQ 3 J<|sQ 4 J<|sQ 5 J<|sQ 6 J<|sQ 7 J<|sQ 8 J<|sQ 9 J ?_
    refine sQ 10 J<|sZ 11 J (.bool false)<|sZ 12 J (.bool false)<|sI<|Sy.ret ?_
    rw [show (.bool (rightB ux.val y false):Value)=.bool false from by rw [VM (QV hz2 hb2)]]
    exact rV (.bool false) rfl
   ·obtain ⟨uy,rfl⟩:=Tj hz2 hb2
    refine sZ 2 J (pT g0 4)<|sD 3 J (fv uy.val) (qk 0 4 4 J J Af)<|sZ 4 J (pT g0 4)<|sD 5 J (fv uy.val) (qk 0 4 4 J J Af) ?_
    obtain ⟨z3,hz3⟩:∃ z:Fp,z=uy*uy:=⟨_,rfl⟩
    refine sD 6 J (fv z3.val) (qf (by rw [hz3]; exact Qa uy uy))<|sZ 7 J (pT g0 0)<|sD 8 J (fv ux.val) (qk 0 0 4 J J Af) ?_
    obtain ⟨z4,hz4⟩:∃ z:Fp,z=ux*ux*ux+7:=⟨_,rfl⟩
    refine sD 9 J (fv z4.val) (qf (by rw [hz4]; exact λw=>H5 w ux)) ?_
    obtain ⟨b3,hb3⟩:=xE (decide (z3.val=z4.val))
    refine sD 10 J (.bool b3) (Quiet.pure (λw=>by rw [hb3]; exact Me w _ _ _ _ _ _ J J J lK lK))<|sZ 11 J (.bool b3)<|sZ 12 J (.bool b3)<|sI<|Sy.ret ?_
    rw [show (.bool (rightB ux.val uy.val false):Value)=.bool b3 from by rw [hb3,Ta]; simp only [hz3,hz4]]
    exact rV (.bool b3) rfl
 ·refine sT<|Sy.seq ?_
  refine Sy.regionD (λj=>false) kR<|sD 0 J (pv x y true) (qk 0 0 9 J J Am)<|sD 1 J (pv 0 0 true) (qf zero_c) ?_
  obtain ⟨b4,hb4⟩:=xE (sameB x y true 0 0 true)
  refine sD 2 J (.bool b4) (Quiet.pure (λw=>by rw [hb4]; exact eql_pt w _ _ _ _ _ _ _ _ _ _ J J J lK lK lK lK))<|sZ 3 J (.bool b4)<|sI<|Sy.ret<|Sy.then_ret ?_
  rw [show (.bool (rightB x y true):Value)=.bool b4 from by rw [hb4,H']]
  exact rV (.bool b4) rfl
theorem Hm (w:World) (x y:Nat) (i:Bool) (hx:x<K4) (hy:y<K4):AL 227 #[pv x y i] w (Ai w (ptv (dec x y i))):=by
 refine Sy.enter (args:=[pv x y i]) Tryz.func227 J kL<|sC<|sM 57 (pcs x y i) (λg0=>?_)
 refine sM 57 (pcs 0 0 false) (λg1=>?_)
 refine sG<|Sy.seq<|sC<|sS (pv x y i) (qk 0 0 9 J J Am) ?_
 obtain ⟨b1,hb1⟩:=xE (rightB x y i)
 refine sS (.bool b1) (qf (by rw [hb1]; exact λw=>right_b w x y i lK lK)) ?_
 cases b1
 ·refine sP (.bool true) ?_
  refine sG<|sT<|sC<|sS (pv 0 0 true) (qf zero_c)<|sw 1 J (pcs 0 0 true) (wA J)<|sG<|Sy.ret<|Sy.then_ret ?_
  rw [show (ptv (dec x y i):Value)=pv 0 0 true from JD x y i hb1.symm]
  exact rc (v:=pv 0 0 true) 1 J J Am
 ·refine sP (.bool false) ?_
  refine sG<|sU<|Sy.skip<|sB<|sS (pv x y i) (qk 0 0 9 J J Am)<|sw 1 J (pcs x y i) (wA J)<|sG<|Sy.ret ?_
  rw [show (ptv (dec x y i):Value)=pv x y i from JE x y i hb1.symm]
  exact rc (v:=pv x y i) 1 J J Am
theorem Oz (w:World) (F:AJ) (o:Oper) (x y:Operand) (a b:Nat) (i:Bool) (c d:Nat) (j:Bool) {yt:TypeId} (ho:o.op=.binOp .eql 57 x y yt) (hx:evF F x=pv a b i) (hy:evF F y=pv c d j) (ha:a<K4) (hb:b<K4) (hc:c<K4) (hd:d<K4) (hij:i≠j):(execOp (evF F) o).run Tryz.prog w=.ok (.value (.bool false)) w:=by
 have h:=eql_pt w F o x y a b i c d j ho hx hy ha hb hc hd
 have e:sameB a b i c d j=false:=by
  unfold sameB
  simp [hij]
 rwa [e] at h
theorem QZ (w:World) (x y:Nat) (i:Bool) (hx:x<K4) (hy:y<K4) (h:dec x y i=none):AL 231 #[pv x y i] w (Ai w (ptv (Ec.neg none))):=by
 refine Sy.enter (args:=[pv x y i]) Tryz.func231 J kL<|sC<|sM 57 (pcs x y i) (λg0=>?_)
 refine sM 57 (pcs 0 0 false) (λg1=>?_)
 refine sA<|sS (pv x y i) (qk 0 0 9 J J Am)<|sS (pv 0 0 true) (qf (λw=>by have hrr:=Hm w x y i lK lK; rw [h] at hrr; exact hrr))<|sw 0 J (pcs 0 0 true) (wA J)<|sA<|sP (pT g0 4)<|sS (fv 0) (qk 0 4 4 J J Af) ?_
 obtain ⟨z1,hz1⟩:∃ z:Fp,z = -(0:Fp):=⟨_,rfl⟩
 refine sS (fv z1.val) (qf (by rw [hz1]; exact Te (0:Fp)))<|sP (pT g0 4)<|sw 0 J (pcs 0 z1.val true) (wB 4 (fcs z1.val) rfl)<|sA<|sS (pv 0 z1.val true) (qk 0 0 9 J J Am)<|sw 1 J (pcs 0 z1.val true) (wA J)<|sG<|Sy.ret ?_
 rw [show (ptv (Ec.neg none):Value)=pv 0 z1.val true from by rw [hz1]; kernel_rfl]
 exact rc (v:=pv 0 z1.val true) 1 J J Am
theorem QY (w:World) (x y:Nat) (i:Bool) (hx:x<K4) (hy:y<K4) (u v:Fp) (h:dec x y i=some (u,v)):AL 231 #[pv x y i] w (Ai w (ptv (Ec.neg (some (u,v))))):=by
 refine Sy.enter (args:=[pv x y i]) Tryz.func231 J kL<|sC<|sM 57 (pcs x y i) (λg0=>?_)
 refine sM 57 (pcs 0 0 false) (λg1=>?_)
 refine sA<|sS (pv x y i) (qk 0 0 9 J J Am)<|sS (pv u.val v.val false) (qf (λw=>by have hrr:=Hm w x y i lK lK; rw [h] at hrr; exact hrr))<|sw 0 J (pcs u.val v.val false) (wA J)<|sA<|sP (pT g0 4)<|sS (fv v.val) (qk 0 4 4 J J Af) ?_
 obtain ⟨z1,hz1⟩:∃ z:Fp,z = -v:=⟨_,rfl⟩
 refine sS (fv z1.val) (qf (by rw [hz1]; exact Te v))<|sP (pT g0 4)<|sw 0 J (pcs u.val z1.val false) (wB 4 (fcs z1.val) rfl)<|sA<|sS (pv u.val z1.val false) (qk 0 0 9 J J Am)<|sw 1 J (pcs u.val z1.val false) (wA J)<|sG<|Sy.ret ?_
 rw [show (ptv (Ec.neg (some (u,v))):Value)=pv u.val z1.val false from by rw [hz1]; rfl]
 exact rc (v:=pv u.val z1.val false) 1 J J Am
theorem Sa (w:World) (x y:Nat) (i:Bool) (hx:x<K4) (hy:y<K4):Calls Tryz.prog 231 #[pv x y i] w (Ai w (ptv (Ec.neg (dec x y i)))):=by
 rcases h:dec x y i with _ | ⟨u,v⟩
 ·exact QZ w x y i hx hy h
 ·exact QY w x y i hx hy u v h
end Cu
end
section
section
open Go.RowKit Go.Lib
def IW:Value:=.agg mP7
theorem MX:fv 115792089237316195423570985008687907853269984665640564039457584007908834671663=.agg #[.int .u64 18446744069414583343,.int .u64 18446744073709551615,.int .u64 18446744073709551615,.int .u64 18446744073709551615]:=rfl
theorem DK (w:World):Calls Tryz.prog 243 #[] w λe w'=>e=.returned IW∧Below w.heap.size w w':=by
 go_enter Tryz.func243,Tryz.ntmps243
 go_wp2
 exact bodyPost_ret (results_cell_row J _ _ w.heap.size _ _ (0,0) _ J (heap_alloc_new w _) De J kZ) rfl ⟨rfl,(Below.refl _ _).alloc (Nat.le_refl _) _⟩
theorem refOf_any (w:World) (n:Nat) (hn:n<(2^256)):Calls Tryz.prog 215 #[fv n] w λe w'=>e=.returned (fv n)∧Below w.heap.size w w':=by
 obtain ⟨a,b,c,d,fn⟩:=Ae n hn
 rw [fn]
 clear fn
 go_enter Tryz.func215,Tryz.ntmps215
 go_wp2
 exact bodyPost_ret (results_cell_row J _ _ (w.heap.size+1) _ _ (0,0) _ J (heap_alloc2_new w _ _) AU J kZ) rfl ⟨rfl,AZ w _ _⟩
theorem JC (w:World) (n:Nat) (hn:n<(2^256)):Calls Tryz.prog 286 #[fv n] w λe w'=>e=.returned (fv n)∧Below w.heap.size w w':=by
 obtain ⟨a,b,c,d,fn⟩:=Ae n hn
 rw [fn]
 clear fn
 go_enter Tryz.func286,Tryz.ntmps286
 go_wp2
 exact bodyPost_ret (results_cell_row J _ _ (w.heap.size+1) _ _ (0,0) _ J (heap_alloc2_new w _ _) Af J kZ) rfl ⟨rfl,AZ w _ _⟩
theorem Gb {v1 v2:Value} (w:World) (x y:Nat) (h1:fv x=v1) (h2:fv y=v2) (hx:x<(2^256)) (hy:y<(2^256)):Calls Tryz.prog 247 #[v1,v2] w λe w'=>e=.returned (.bool (decide (x<y)))∧Below w.heap.size w w':=by
 subst h1 h2
 obtain ⟨x0,x1,x2,x3,a0,a1,a2,a3,ex,fx⟩:=Ah x hx
 obtain ⟨y0,y1,y2,y3,b0,b1,b2,b3,ey,fy⟩:=Ah y hy
 obtain ⟨r,hr⟩:=xE (decide (x<y))
 have t3:x3≠y3→r=decide ((x3:Int)<(y3:Int)):=λh=>by rw [hr]; congr 1; simp only [eq_iff_iff]; omega
 have t2:x3=y3→x2≠y2→r=decide ((x2:Int)<(y2:Int)):=λ_ h=>by rw [hr]; congr 1; simp only [eq_iff_iff]; omega
 have t1:x3=y3→x2=y2→x1≠y1→r=decide ((x1:Int)<(y1:Int)):=λ_ _ h=>by rw [hr]; congr 1; simp only [eq_iff_iff]; omega
 have t0:x3=y3→x2=y2→x1=y1→x0≠y0→r=decide ((x0:Int)<(y0:Int)):=λ_ _ _ h=>by rw [hr]; congr 1; simp only [eq_iff_iff]; omega
 have te:x3=y3→x2=y2→x1=y1→x0=y0→r=false:=λ_ _ _ _=>by rw [hr]; simp only [decide_eq_false_iff_not]; omega
 have HT:=Lib.hid (And.intro t3 (And.intro t2 (And.intro t1 (And.intro t0 te))))
 rw [fx,fy, ← hr]
 clear fx fy ex ey hx hy a0 a1 a2 a3 b0 b1 b2 b3 hr t3 t2 t1 t0 te
 go_enter Tryz.func247,Tryz.ntmps247
 go_wp2_with fail
 go_loopw [5] (λi wr=>Below w.heap.size w wr∧Blk wr w.heap.size 359 #[.int .u64 (x0:Int),.int .u64 (x1:Int),.int .u64 (x2:Int),.int .u64 (x3:Int)]∧Blk wr (w.heap.size+1) 359 #[.int .u64 (y0:Int),.int .u64 (y1:Int),.int .u64 (y2:Int),.int .u64 (y3:Int)]∧Hid ((i=.int .i64 3)∨(i=.int .i64 2∧x3=y3)∨(i=.int .i64 1∧x3=y3∧x2=y2)∨(i=.int .i64 0∧x3=y3∧x2=y2∧x1=y1)∨(i=.int .i64 (-1)∧x3=y3∧x2=y2∧x1=y1∧x0=y0))) (λi _=>(intOf i+1).toNat)
 case atStart=>exact ⟨AZ w _ _,(Blk.new w _ _).alloc _,Ab w _ _ _,Lib.hid (.inl J)⟩
 case round =>
  obtain ⟨hb,BX,BY,HI⟩:=hrel
  have lX:=BX.lt
  have lY:=BY.lt
  have qx0:wr.cell? ⟨w.heap.size,0,none⟩=some (.int .u64 (x0:Int)):=BX.cell 0
  have qy0:wr.cell? ⟨w.heap.size+1,0,none⟩=some (.int .u64 (y0:Int)):=BY.cell 0
  have qx1:wr.cell? ⟨w.heap.size,1,none⟩=some (.int .u64 (x1:Int)):=BX.cell 1
  have qy1:wr.cell? ⟨w.heap.size+1,1,none⟩=some (.int .u64 (y1:Int)):=BY.cell 1
  have qx2:wr.cell? ⟨w.heap.size,2,none⟩=some (.int .u64 (x2:Int)):=BX.cell 2
  have qy2:wr.cell? ⟨w.heap.size+1,2,none⟩=some (.int .u64 (y2:Int)):=BY.cell 2
  have qx3:wr.cell? ⟨w.heap.size,3,none⟩=some (.int .u64 (x3:Int)):=BX.cell 3
  have qy3:wr.cell? ⟨w.heap.size+1,3,none⟩=some (.int .u64 (y3:Int)):=BY.cell 3
  rcases HI.out with rfl | ⟨rfl,E⟩ | ⟨rfl,E⟩ | ⟨rfl,E⟩ | ⟨rfl,E⟩
  ·have hk:Hid (True):=Lib.hid trivial
   clear HI
   obtain ⟨b,hbd⟩:=xE (decide (x3≠y3))
   have hbb:(!((x3:Int) == (y3:Int)))=b:=by
    rw [hbd]
    by_cases h:x3=y3 <;> simp [h] <;> omega
   have HB:=Lib.hid hbd
   clear hbd
   go_wp2
   refine AP (λ_=>false) kZ ?_
   try simp only [Act.put]
   refine tk 0 J ?_
   try simp only [aPS]
   refine tk 1 J ?_
   try simp only [aPS]
   refine tkw 2 J (YieldsG.pure (v:=.int .u64 (x3:Int)) (by rfl) (λw9 h9=>by have hz:=(Below.cell (p:=⟨w.heap.size,3,none⟩) h9 lX).trans qx3; go_simp; first | done | simp [hz])) ?_
   try simp only [aPS]
   refine tk 3 J ?_
   try simp only [aPS]
   refine tk 4 J ?_
   try simp only [aPS]
   refine tkw 5 J (YieldsG.pure (v:=.int .u64 (y3:Int)) (by rfl) (λw9 h9=>by have hz:=(Below.cell (p:=⟨w.heap.size+1,3,none⟩) h9 lY).trans qy3; go_simp; first | done | simp [hz])) ?_
   try simp only [aPS]
   refine tkw 6 J (YieldsG.pure (v:=.bool b) (by rfl) (λw9 h9=>by go_simp; congr 3; all_goals (rw [HB.out]; all_goals (by_cases h:x3=y3 <;> simp [h] <;> omega)))) ?_
   try simp only [aPS]
   refine AO kZ (λu hu=>?_)
   have hbu:=Below.gr hb hu
   have BXu:=Gr.blk hu BX
   have BYu:=Gr.blk hu BY
   cases b
   ·have hxy:x3=y3:=by
     have:=HB.out
     simpa using this
    have HXY:=Lib.hid hxy
    clear hxy
    go_wp2
    exact ⟨⟨hbu,BXu,BYu,Lib.hid (.inr (.inl ⟨rfl,HXY.out⟩))⟩,by decide⟩
   ·have hxy:x3≠y3:=by
     have:=HB.out
     simpa using this
    have hr2:=Lib.hid (HT.out.1 hxy)
    have lXu:=BXu.lt
    have lYu:=BYu.lt
    have px:u.cell? ⟨w.heap.size,3,none⟩=some (.int .u64 (x3:Int)):=BXu.cell 3
    have py:u.cell? ⟨w.heap.size+1,3,none⟩=some (.int .u64 (y3:Int)):=BYu.cell 3
    clear hxy hk HT
    go_wp2
    refine AP (λ_=>false) kZ ?_
    try simp only [Act.put]
    refine tk 0 J ?_
    try simp only [aPS]
    refine tk 1 J ?_
    try simp only [aPS]
    refine tkw 2 J (YieldsG.pure (v:=.int .u64 (x3:Int)) (by rfl) (λw9 h9=>by have hz:=(Below.cell (p:=⟨w.heap.size,3,none⟩) h9 lXu).trans px; go_simp; first | done | simp [hz])) ?_
    try simp only [aPS]
    refine tk 3 J ?_
    try simp only [aPS]
    refine tk 4 J ?_
    try simp only [aPS]
    refine tkw 5 J (YieldsG.pure (v:=.int .u64 (y3:Int)) (by rfl) (λw9 h9=>by have hz:=(Below.cell (p:=⟨w.heap.size+1,3,none⟩) h9 lYu).trans py; go_simp; first | done | simp [hz])) ?_
    try simp only [aPS]
    refine tkw 6 J (YieldsG.pure (v:=.bool r) (by rfl) (λw9 h9=>by go_simp; congr 3; rw [hr2.out]; all_goals (apply decide_eq_decide.2; omega))) ?_
    try simp only [aPS]
    refine tk 7 J ?_
    try simp only [aPS]
    refine AO kZ (λu2 hu2=>?_)
    go_wp2
    go_ret
    exact ⟨rfl,Below.gr hbu hu2⟩
  ·have hk:Hid (x3=y3):=Lib.hid E
   clear HI E
   obtain ⟨b,hbd⟩:=xE (decide (x2≠y2))
   have hbb:(!((x2:Int) == (y2:Int)))=b:=by
    rw [hbd]
    by_cases h:x2=y2 <;> simp [h] <;> omega
   have HB:=Lib.hid hbd
   clear hbd
   go_wp2
   refine AP (λ_=>false) kZ ?_
   try simp only [Act.put]
   refine tk 0 J ?_
   try simp only [aPS]
   refine tk 1 J ?_
   try simp only [aPS]
   refine tkw 2 J (YieldsG.pure (v:=.int .u64 (x2:Int)) (by rfl) (λw9 h9=>by have hz:=(Below.cell (p:=⟨w.heap.size,2,none⟩) h9 lX).trans qx2; go_simp; first | done | simp [hz])) ?_
   try simp only [aPS]
   refine tk 3 J ?_
   try simp only [aPS]
   refine tk 4 J ?_
   try simp only [aPS]
   refine tkw 5 J (YieldsG.pure (v:=.int .u64 (y2:Int)) (by rfl) (λw9 h9=>by have hz:=(Below.cell (p:=⟨w.heap.size+1,2,none⟩) h9 lY).trans qy2; go_simp; first | done | simp [hz])) ?_
   try simp only [aPS]
   refine tkw 6 J (YieldsG.pure (v:=.bool b) (by rfl) (λw9 h9=>by go_simp; congr 3; all_goals (rw [HB.out]; all_goals (by_cases h:x2=y2 <;> simp [h] <;> omega)))) ?_
   try simp only [aPS]
   refine AO kZ (λu hu=>?_)
   have hbu:=Below.gr hb hu
   have BXu:=Gr.blk hu BX
   have BYu:=Gr.blk hu BY
   cases b
   ·have hxy:x2=y2:=by
     have:=HB.out
     simpa using this
    have HXY:=Lib.hid hxy
    clear hxy
    go_wp2
    exact ⟨⟨hbu,BXu,BYu,Lib.hid (.inr (.inr (.inl ⟨rfl,hk.out,HXY.out⟩)))⟩,by decide⟩
   ·have hxy:x2≠y2:=by
     have:=HB.out
     simpa using this
    have hr2:=Lib.hid (HT.out.2.1 hk.out hxy)
    have lXu:=BXu.lt
    have lYu:=BYu.lt
    have px:u.cell? ⟨w.heap.size,2,none⟩=some (.int .u64 (x2:Int)):=BXu.cell 2
    have py:u.cell? ⟨w.heap.size+1,2,none⟩=some (.int .u64 (y2:Int)):=BYu.cell 2
    clear hxy hk HT
    go_wp2
    refine AP (λ_=>false) kZ ?_
    try simp only [Act.put]
    refine tk 0 J ?_
    try simp only [aPS]
    refine tk 1 J ?_
    try simp only [aPS]
    refine tkw 2 J (YieldsG.pure (v:=.int .u64 (x2:Int)) (by rfl) (λw9 h9=>by have hz:=(Below.cell (p:=⟨w.heap.size,2,none⟩) h9 lXu).trans px; go_simp; first | done | simp [hz])) ?_
    try simp only [aPS]
    refine tk 3 J ?_
    try simp only [aPS]
    refine tk 4 J ?_
    try simp only [aPS]
    refine tkw 5 J (YieldsG.pure (v:=.int .u64 (y2:Int)) (by rfl) (λw9 h9=>by have hz:=(Below.cell (p:=⟨w.heap.size+1,2,none⟩) h9 lYu).trans py; go_simp; first | done | simp [hz])) ?_
    try simp only [aPS]
    refine tkw 6 J (YieldsG.pure (v:=.bool r) (by rfl) (λw9 h9=>by go_simp; congr 3; rw [hr2.out]; all_goals (apply decide_eq_decide.2; omega))) ?_
    try simp only [aPS]
    refine tk 7 J ?_
    try simp only [aPS]
    refine AO kZ (λu2 hu2=>?_)
    go_wp2
    go_ret
    exact ⟨rfl,Below.gr hbu hu2⟩
  ·have hk:Hid (x3=y3∧x2=y2):=Lib.hid E
   clear HI E
   obtain ⟨b,hbd⟩:=xE (decide (x1≠y1))
   have hbb:(!((x1:Int) == (y1:Int)))=b:=by
    rw [hbd]
    by_cases h:x1=y1 <;> simp [h] <;> omega
   have HB:=Lib.hid hbd
   clear hbd
   go_wp2
   refine AP (λ_=>false) kZ ?_
   try simp only [Act.put]
   refine tk 0 J ?_
   try simp only [aPS]
   refine tk 1 J ?_
   try simp only [aPS]
   refine tkw 2 J (YieldsG.pure (v:=.int .u64 (x1:Int)) (by rfl) (λw9 h9=>by have hz:=(Below.cell (p:=⟨w.heap.size,1,none⟩) h9 lX).trans qx1; go_simp; first | done | simp [hz])) ?_
   try simp only [aPS]
   refine tk 3 J ?_
   try simp only [aPS]
   refine tk 4 J ?_
   try simp only [aPS]
   refine tkw 5 J (YieldsG.pure (v:=.int .u64 (y1:Int)) (by rfl) (λw9 h9=>by have hz:=(Below.cell (p:=⟨w.heap.size+1,1,none⟩) h9 lY).trans qy1; go_simp; first | done | simp [hz])) ?_
   try simp only [aPS]
   refine tkw 6 J (YieldsG.pure (v:=.bool b) (by rfl) (λw9 h9=>by go_simp; congr 3; all_goals (rw [HB.out]; all_goals (by_cases h:x1=y1 <;> simp [h] <;> omega)))) ?_
   try simp only [aPS]
   refine AO kZ (λu hu=>?_)
   have hbu:=Below.gr hb hu
   have BXu:=Gr.blk hu BX
   have BYu:=Gr.blk hu BY
   cases b
   ·have hxy:x1=y1:=by
     have:=HB.out
     simpa using this
    have HXY:=Lib.hid hxy
    clear hxy
    go_wp2
    exact ⟨⟨hbu,BXu,BYu,Lib.hid (.inr (.inr (.inr (.inl ⟨rfl,hk.out.1,hk.out.2,HXY.out⟩))))⟩,by decide⟩
   ·have hxy:x1≠y1:=by
     have:=HB.out
     simpa using this
    have hr2:=Lib.hid (HT.out.2.2.1 hk.out.1 hk.out.2 hxy)
    have lXu:=BXu.lt
    have lYu:=BYu.lt
    have px:u.cell? ⟨w.heap.size,1,none⟩=some (.int .u64 (x1:Int)):=BXu.cell 1
    have py:u.cell? ⟨w.heap.size+1,1,none⟩=some (.int .u64 (y1:Int)):=BYu.cell 1
    clear hxy hk HT
    go_wp2
    refine AP (λ_=>false) kZ ?_
    try simp only [Act.put]
    refine tk 0 J ?_
    try simp only [aPS]
    refine tk 1 J ?_
    try simp only [aPS]
    refine tkw 2 J (YieldsG.pure (v:=.int .u64 (x1:Int)) (by rfl) (λw9 h9=>by have hz:=(Below.cell (p:=⟨w.heap.size,1,none⟩) h9 lXu).trans px; go_simp; first | done | simp [hz])) ?_
    try simp only [aPS]
    refine tk 3 J ?_
    try simp only [aPS]
    refine tk 4 J ?_
    try simp only [aPS]
    refine tkw 5 J (YieldsG.pure (v:=.int .u64 (y1:Int)) (by rfl) (λw9 h9=>by have hz:=(Below.cell (p:=⟨w.heap.size+1,1,none⟩) h9 lYu).trans py; go_simp; first | done | simp [hz])) ?_
    try simp only [aPS]
    refine tkw 6 J (YieldsG.pure (v:=.bool r) (by rfl) (λw9 h9=>by go_simp; congr 3; rw [hr2.out]; all_goals (apply decide_eq_decide.2; omega))) ?_
    try simp only [aPS]
    refine tk 7 J ?_
    try simp only [aPS]
    refine AO kZ (λu2 hu2=>?_)
    go_wp2
    go_ret
    exact ⟨rfl,Below.gr hbu hu2⟩
  ·have hk:Hid (x3=y3∧x2=y2∧x1=y1):=Lib.hid E
   clear HI E
   obtain ⟨b,hbd⟩:=xE (decide (x0≠y0))
   have hbb:(!((x0:Int) == (y0:Int)))=b:=by
    rw [hbd]
    by_cases h:x0=y0 <;> simp [h] <;> omega
   have HB:=Lib.hid hbd
   clear hbd
   go_wp2
   refine AP (λ_=>false) kZ ?_
   try simp only [Act.put]
   refine tk 0 J ?_
   try simp only [aPS]
   refine tk 1 J ?_
   try simp only [aPS]
   refine tkw 2 J (YieldsG.pure (v:=.int .u64 (x0:Int)) (by rfl) (λw9 h9=>by have hz:=(Below.cell (p:=⟨w.heap.size,0,none⟩) h9 lX).trans qx0; go_simp; first | done | simp [hz])) ?_
   try simp only [aPS]
   refine tk 3 J ?_
   try simp only [aPS]
   refine tk 4 J ?_
   try simp only [aPS]
   refine tkw 5 J (YieldsG.pure (v:=.int .u64 (y0:Int)) (by rfl) (λw9 h9=>by have hz:=(Below.cell (p:=⟨w.heap.size+1,0,none⟩) h9 lY).trans qy0; go_simp; first | done | simp [hz])) ?_
   try simp only [aPS]
   refine tkw 6 J (YieldsG.pure (v:=.bool b) (by rfl) (λw9 h9=>by go_simp; congr 3; all_goals (rw [HB.out]; all_goals (by_cases h:x0=y0 <;> simp [h] <;> omega)))) ?_
   try simp only [aPS]
   refine AO kZ (λu hu=>?_)
   have hbu:=Below.gr hb hu
   have BXu:=Gr.blk hu BX
   have BYu:=Gr.blk hu BY
   cases b
   ·have hxy:x0=y0:=by
     have:=HB.out
     simpa using this
    have HXY:=Lib.hid hxy
    clear hxy
    go_wp2
    exact ⟨⟨hbu,BXu,BYu,Lib.hid (.inr (.inr (.inr (.inr ⟨rfl,hk.out.1,hk.out.2.1,hk.out.2.2,HXY.out⟩))))⟩,by decide⟩
   ·have hxy:x0≠y0:=by
     have:=HB.out
     simpa using this
    have hr2:=Lib.hid (HT.out.2.2.2.1 hk.out.1 hk.out.2.1 hk.out.2.2 hxy)
    have lXu:=BXu.lt
    have lYu:=BYu.lt
    have px:u.cell? ⟨w.heap.size,0,none⟩=some (.int .u64 (x0:Int)):=BXu.cell 0
    have py:u.cell? ⟨w.heap.size+1,0,none⟩=some (.int .u64 (y0:Int)):=BYu.cell 0
    clear hxy hk HT
    go_wp2
    refine AP (λ_=>false) kZ ?_
    try simp only [Act.put]
    refine tk 0 J ?_
    try simp only [aPS]
    refine tk 1 J ?_
    try simp only [aPS]
    refine tkw 2 J (YieldsG.pure (v:=.int .u64 (x0:Int)) (by rfl) (λw9 h9=>by have hz:=(Below.cell (p:=⟨w.heap.size,0,none⟩) h9 lXu).trans px; go_simp; first | done | simp [hz])) ?_
    try simp only [aPS]
    refine tk 3 J ?_
    try simp only [aPS]
    refine tk 4 J ?_
    try simp only [aPS]
    refine tkw 5 J (YieldsG.pure (v:=.int .u64 (y0:Int)) (by rfl) (λw9 h9=>by have hz:=(Below.cell (p:=⟨w.heap.size+1,0,none⟩) h9 lYu).trans py; go_simp; first | done | simp [hz])) ?_
    try simp only [aPS]
    refine tkw 6 J (YieldsG.pure (v:=.bool r) (by rfl) (λw9 h9=>by go_simp; congr 3; rw [hr2.out]; all_goals (apply decide_eq_decide.2; omega))) ?_
    try simp only [aPS]
    refine tk 7 J ?_
    try simp only [aPS]
    refine AO kZ (λu2 hu2=>?_)
    go_wp2
    go_ret
    exact ⟨rfl,Below.gr hbu hu2⟩
  ·have HR:Hid (r=false):=Lib.hid (HT.out.2.2.2.2 E.1 E.2.1 E.2.2.1 E.2.2.2)
   clear HI E
   go_wp2
   go_ret
   exact ⟨by rw [HR.out]; rfl,hb⟩
end
end
section
section
open Go.RowKit Go.Lib
theorem Gv {v1 v2:Value} (w:World) (x y s k:Nat) (h1:fv x=v1) (h2:fv y=v2) (hx:x<(2^256)) (hy:y<(2^256)) (hs:s<(2^256)) (he:s+y=x+(2^256)*k):Calls Tryz.prog 267 #[v1,v2] w λe w'=>e=.returned (fv s)∧Below w.heap.size w w':=by
 subst h1 h2
 obtain ⟨x0,x1,x2,x3,a0,a1,a2,a3,ex,fx⟩:=Ah x hx
 obtain ⟨y0,y1,y2,y3,b0,b1,b2,b3,ey,fy⟩:=Ah y hy
 obtain ⟨s0,c0,d0,k0,e0,r0⟩:=Jf x0 y0 a0 b0
 obtain ⟨s1,c1,d1,k1,e1,r1⟩:=DV x1 y1 c0 a1 b1 k0
 obtain ⟨s2,c2,d2,k2,e2,r2⟩:=DV x2 y2 c1 a2 b2 k1
 obtain ⟨s3,c3,d3,k3,e3,r3⟩:=DV x3 y3 c2 a3 b3 k2
 have fin:s0+18446744073709551616*s1+340282366920938463463374607431768211456*s2+6277101735386680763835789423207666416102355444464034512896*s3=s:=om
 have hfs:=Cw s0 s1 s2 s3 d0 d1 d2 d3
 rw [fin] at hfs
 have Fd:=Lib.hid hfs
 rw [fx,fy]
 clear fx fy ex ey hx hy hs he a0 a1 a2 a3 b0 b1 b2 b3 d0 d1 d2 d3 k0 k1 k2 k3 e0 e1 e2 e3 fin hfs
 go_enter Tryz.func267,Tryz.ntmps267
 go_wp2_with fail
 go_loopw [5,6] (λbo i wr=>Below w.heap.size w wr∧Blk wr (w.heap.size+1) 359 #[.int .u64 (y0:Int),.int .u64 (y1:Int),.int .u64 (y2:Int),.int .u64 (y3:Int)]∧Blk wr (w.heap.size+2) 359 #[.int .u64 0,.int .u64 0,.int .u64 0,.int .u64 0]∧Hid ((i=.int .i64 0∧bo=.int .u64 0∧Blk wr w.heap.size 359 #[.int .u64 (x0:Int),.int .u64 (x1:Int),.int .u64 (x2:Int),.int .u64 (x3:Int)])∨(i=.int .i64 1∧bo=.int .u64 (c0:Int)∧Blk wr w.heap.size 359 #[.int .u64 (s0:Int),.int .u64 (x1:Int),.int .u64 (x2:Int),.int .u64 (x3:Int)])∨(i=.int .i64 2∧bo=.int .u64 (c1:Int)∧Blk wr w.heap.size 359 #[.int .u64 (s0:Int),.int .u64 (s1:Int),.int .u64 (x2:Int),.int .u64 (x3:Int)])∨(i=.int .i64 3∧bo=.int .u64 (c2:Int)∧Blk wr w.heap.size 359 #[.int .u64 (s0:Int),.int .u64 (s1:Int),.int .u64 (s2:Int),.int .u64 (x3:Int)])∨(i=.int .i64 4∧bo=.int .u64 (c3:Int)∧Blk wr w.heap.size 359 #[.int .u64 (s0:Int),.int .u64 (s1:Int),.int .u64 (s2:Int),.int .u64 (s3:Int)]))) (λ_ i _=>4 - (intOf i).toNat)
 case atStart=>exact ⟨AY w _ _ _,(Ab w _ _ _).alloc _,Ay w _ _ _ _,Lib.hid (.inl ⟨rfl,rfl,((Blk.new w _ _).alloc _).alloc _⟩)⟩
 case round =>
  obtain ⟨hb,BY,BR,HI⟩:=hrel
  have lY:=BY.lt
  have lX:w.heap.size<wr.heap.size:=om
  have hsz:w.heap.size+2<wr.heap.size:=BR.lt
  rcases HI.out with ⟨rfl,rfl,BX⟩ | ⟨rfl,rfl,BX⟩ | ⟨rfl,rfl,BX⟩ | ⟨rfl,rfl,BX⟩ | ⟨rfl,rfl,BX⟩
  ·clear HI
   have px:wr.cell? ⟨w.heap.size,0,none⟩=some (.int .u64 (x0:Int)):=BX.cell 0
   have py:wr.cell? ⟨w.heap.size+1,0,none⟩=some (.int .u64 (y0:Int)):=BY.cell 0
   go_wp2
   refine AP (λ_=>false) kZ ?_
   try simp only [Act.put]
   refine tk 0 J ?_
   try simp only [aPS]
   refine tk 1 J ?_
   try simp only [aPS]
   refine tkw 2 J (YieldsG.pure (v:=.int .u64 (x0:Int)) (by rfl) (λw9 h9=>by have hz:=(Below.cell (p:=⟨w.heap.size,0,none⟩) h9 lX).trans px; go_simp; first | done | simp [hz])) ?_
   try simp only [aPS]
   refine tk 3 J ?_
   try simp only [aPS]
   refine tk 4 J ?_
   try simp only [aPS]
   refine tkw 5 J (YieldsG.pure (v:=.int .u64 (y0:Int)) (by rfl) (λw9 h9=>by have hz:=(Below.cell (p:=⟨w.heap.size+1,0,none⟩) h9 lY).trans py; go_simp; first | done | simp [hz])) ?_
   try simp only [aPS]
   refine tk 6 J ?_
   try simp only [aPS]
   refine tkw 7 J (YieldsG.pure (v:=.tuple #[.int .u64 (s0:Int),.int .u64 (c0:Int)]) (by rfl) (λw9 h9=>by go_simp)) ?_
   try simp only [aPS]
   refine tk 8 J ?_
   try simp only [aPS]
   refine tk 9 J ?_
   try simp only [aPS]
   refine tk 10 J ?_
   try simp only [aPS]
   refine tk 11 J ?_
   try simp only [aPS]
   refine tk 12 J ?_
   try simp only [aPS]
   refine AO kZ (λu hu=>?_)
   have BXu:=Gr.blk hu BX
   have BYu:=Gr.blk hu BY
   have BRu:=Gr.blk hu BR
   have hbu:=Below.gr hb hu
   have pc:u.cell? ⟨w.heap.size,0,none⟩=some (.int .u64 (x0:Int)):=BXu.cell 0
   have pf:=BXu.frozen 0
   go_wp2
   refine ⟨⟨hbu.setCell (Nat.le_refl _) _,BYu.far (by show w.heap.size+1≠w.heap.size; omega) _,BRu.far (by show w.heap.size+2≠w.heap.size; omega) _,Lib.hid (.inr (.inl (⟨rfl,rfl,BXu.set_ 0 _⟩)))⟩,by decide⟩
  ·clear HI
   have px:wr.cell? ⟨w.heap.size,1,none⟩=some (.int .u64 (x1:Int)):=BX.cell 1
   have py:wr.cell? ⟨w.heap.size+1,1,none⟩=some (.int .u64 (y1:Int)):=BY.cell 1
   go_wp2
   refine AP (λ_=>false) kZ ?_
   try simp only [Act.put]
   refine tk 0 J ?_
   try simp only [aPS]
   refine tk 1 J ?_
   try simp only [aPS]
   refine tkw 2 J (YieldsG.pure (v:=.int .u64 (x1:Int)) (by rfl) (λw9 h9=>by have hz:=(Below.cell (p:=⟨w.heap.size,1,none⟩) h9 lX).trans px; go_simp; first | done | simp [hz])) ?_
   try simp only [aPS]
   refine tk 3 J ?_
   try simp only [aPS]
   refine tk 4 J ?_
   try simp only [aPS]
   refine tkw 5 J (YieldsG.pure (v:=.int .u64 (y1:Int)) (by rfl) (λw9 h9=>by have hz:=(Below.cell (p:=⟨w.heap.size+1,1,none⟩) h9 lY).trans py; go_simp; first | done | simp [hz])) ?_
   try simp only [aPS]
   refine tk 6 J ?_
   try simp only [aPS]
   refine tkw 7 J (YieldsG.pure (v:=.tuple #[.int .u64 (s1:Int),.int .u64 (c1:Int)]) (by rfl) (λw9 h9=>by go_simp)) ?_
   try simp only [aPS]
   refine tk 8 J ?_
   try simp only [aPS]
   refine tk 9 J ?_
   try simp only [aPS]
   refine tk 10 J ?_
   try simp only [aPS]
   refine tk 11 J ?_
   try simp only [aPS]
   refine tk 12 J ?_
   try simp only [aPS]
   refine AO kZ (λu hu=>?_)
   have BXu:=Gr.blk hu BX
   have BYu:=Gr.blk hu BY
   have BRu:=Gr.blk hu BR
   have hbu:=Below.gr hb hu
   have pc:u.cell? ⟨w.heap.size,1,none⟩=some (.int .u64 (x1:Int)):=BXu.cell 1
   have pf:=BXu.frozen 1
   go_wp2
   refine ⟨⟨hbu.setCell (Nat.le_refl _) _,BYu.far (by show w.heap.size+1≠w.heap.size; omega) _,BRu.far (by show w.heap.size+2≠w.heap.size; omega) _,Lib.hid (.inr (.inr (.inl (⟨rfl,rfl,BXu.set_ 1 _⟩))))⟩,by decide⟩
  ·clear HI
   have px:wr.cell? ⟨w.heap.size,2,none⟩=some (.int .u64 (x2:Int)):=BX.cell 2
   have py:wr.cell? ⟨w.heap.size+1,2,none⟩=some (.int .u64 (y2:Int)):=BY.cell 2
   go_wp2
   refine AP (λ_=>false) kZ ?_
   try simp only [Act.put]
   refine tk 0 J ?_
   try simp only [aPS]
   refine tk 1 J ?_
   try simp only [aPS]
   refine tkw 2 J (YieldsG.pure (v:=.int .u64 (x2:Int)) (by rfl) (λw9 h9=>by have hz:=(Below.cell (p:=⟨w.heap.size,2,none⟩) h9 lX).trans px; go_simp; first | done | simp [hz])) ?_
   try simp only [aPS]
   refine tk 3 J ?_
   try simp only [aPS]
   refine tk 4 J ?_
   try simp only [aPS]
   refine tkw 5 J (YieldsG.pure (v:=.int .u64 (y2:Int)) (by rfl) (λw9 h9=>by have hz:=(Below.cell (p:=⟨w.heap.size+1,2,none⟩) h9 lY).trans py; go_simp; first | done | simp [hz])) ?_
   try simp only [aPS]
   refine tk 6 J ?_
   try simp only [aPS]
   refine tkw 7 J (YieldsG.pure (v:=.tuple #[.int .u64 (s2:Int),.int .u64 (c2:Int)]) (by rfl) (λw9 h9=>by go_simp)) ?_
   try simp only [aPS]
   refine tk 8 J ?_
   try simp only [aPS]
   refine tk 9 J ?_
   try simp only [aPS]
   refine tk 10 J ?_
   try simp only [aPS]
   refine tk 11 J ?_
   try simp only [aPS]
   refine tk 12 J ?_
   try simp only [aPS]
   refine AO kZ (λu hu=>?_)
   have BXu:=Gr.blk hu BX
   have BYu:=Gr.blk hu BY
   have BRu:=Gr.blk hu BR
   have hbu:=Below.gr hb hu
   have pc:u.cell? ⟨w.heap.size,2,none⟩=some (.int .u64 (x2:Int)):=BXu.cell 2
   have pf:=BXu.frozen 2
   go_wp2
   refine ⟨⟨hbu.setCell (Nat.le_refl _) _,BYu.far (by show w.heap.size+1≠w.heap.size; omega) _,BRu.far (by show w.heap.size+2≠w.heap.size; omega) _,Lib.hid (.inr (.inr (.inr (.inl (⟨rfl,rfl,BXu.set_ 2 _⟩)))))⟩,by decide⟩
  ·clear HI
   have px:wr.cell? ⟨w.heap.size,3,none⟩=some (.int .u64 (x3:Int)):=BX.cell 3
   have py:wr.cell? ⟨w.heap.size+1,3,none⟩=some (.int .u64 (y3:Int)):=BY.cell 3
   go_wp2
   refine AP (λ_=>false) kZ ?_
   try simp only [Act.put]
   refine tk 0 J ?_
   try simp only [aPS]
   refine tk 1 J ?_
   try simp only [aPS]
   refine tkw 2 J (YieldsG.pure (v:=.int .u64 (x3:Int)) (by rfl) (λw9 h9=>by have hz:=(Below.cell (p:=⟨w.heap.size,3,none⟩) h9 lX).trans px; go_simp; first | done | simp [hz])) ?_
   try simp only [aPS]
   refine tk 3 J ?_
   try simp only [aPS]
   refine tk 4 J ?_
   try simp only [aPS]
   refine tkw 5 J (YieldsG.pure (v:=.int .u64 (y3:Int)) (by rfl) (λw9 h9=>by have hz:=(Below.cell (p:=⟨w.heap.size+1,3,none⟩) h9 lY).trans py; go_simp; first | done | simp [hz])) ?_
   try simp only [aPS]
   refine tk 6 J ?_
   try simp only [aPS]
   refine tkw 7 J (YieldsG.pure (v:=.tuple #[.int .u64 (s3:Int),.int .u64 (c3:Int)]) (by rfl) (λw9 h9=>by go_simp)) ?_
   try simp only [aPS]
   refine tk 8 J ?_
   try simp only [aPS]
   refine tk 9 J ?_
   try simp only [aPS]
   refine tk 10 J ?_
   try simp only [aPS]
   refine tk 11 J ?_
   try simp only [aPS]
   refine tk 12 J ?_
   try simp only [aPS]
   refine AO kZ (λu hu=>?_)
   have BXu:=Gr.blk hu BX
   have BYu:=Gr.blk hu BY
   have BRu:=Gr.blk hu BR
   have hbu:=Below.gr hb hu
   have pc:u.cell? ⟨w.heap.size,3,none⟩=some (.int .u64 (x3:Int)):=BXu.cell 3
   have pf:=BXu.frozen 3
   go_wp2
   refine ⟨⟨hbu.setCell (Nat.le_refl _) _,BYu.far (by show w.heap.size+1≠w.heap.size; omega) _,BRu.far (by show w.heap.size+2≠w.heap.size; omega) _,Lib.hid (.inr (.inr (.inr (.inr (⟨rfl,rfl,BXu.set_ 3 _⟩)))))⟩,by decide⟩
  ·clear HI
   have BS:=BX.eq_ (BV Fd.out.symm).symm
   go_wp2_with (first | ((with_reducible refine AF (d:=some 28) ?_); refine AC J _ _ J w.heap.size rfl s _ _ _ BS (AS s) AU J kZ ?_) | ((with_reducible refine AG ?_); refine AB J _ _ _ J (w.heap.size+2) (fcs s) J J _ _ BR kZ (by rfl) (AM _) ?_; intro w9 hL9 hB9 hK9))
   exact bodyPost_ret (results_cell_row J _ _ (w.heap.size+2) _ _ (0,0) _ J hL9 AU J kZ) rfl ⟨rfl,hb.trans (hB9 _ om)⟩
theorem Cq {w:World} {g:Nat} {t:TypeId} {a b c d:Value} {r:List Value} (h:Blk w g t (a::b::c::d::r).toArray):w.rangeAt g 0 [a,b,c,d]:=λj v hj=>by
 rw [Nat.zero_add,h.cell]
 match j,hj with
 | 0,hj=>simpa using hj
 | 1,hj=>simpa using hj
 | 2,hj=>simpa using hj
 | 3,hj=>simpa using hj
 | j+4,hj=>simp at hj
theorem Bk {P:Program} {ops:Array Oper} {rest:List Oper} {o:Oper} {a:Act} {w:World} {Q:Exit→Act→World→Prop} (hgd:o.guard=none) (ty:TypeId) (x:Operand) (ho:o.op=.load ty x)
  (g:Nat) (hx:a.eval x=pT g 0) (n:Nat) (cs:List Value) (d:TypeDesc) (hr:w.rangeAt g 0 cs) (hf:fv n=.agg cs.toArray)
  (hu:P.underlying ty=some d) (hd:d.isRow=true) (hi:(P.info? ty).map (·.size)=some cs.length)
  (h:wpList P ops Q rest (a.put o.dst (fv n)) w):wpList P ops Q (o::rest) a w :=
 wpList_plain hgd λK hK=>by
  have hl:=run_loadVar_mid (P:=P) w g 0 ty cs d hr hu hd hi
  unfold Oper.wp execOp
  simp only [ho,hx,Instr.loadAt,Instr.sureAddr,Sem.run_bind,Sem.run_pure,Result.andThen_ok,hl]
  rw [← hf]
  exact hK _ _ h
theorem normR_any (w:World) (x:Nat) (hx:x<(2^256)):Calls Tryz.prog 240 #[IW,fv x] w λe w'=>e=.returned (fv (x%pM))∧Below w.heap.size w w':=by
 obtain ⟨z,hz⟩:=xE (x%pM)
 obtain ⟨p,hp⟩:∃ p,p=115792089237316195423570985008687907853269984665640564039457584007908834671663:=⟨_,rfl⟩
 have hpl:p<(2^256):=om
 obtain ⟨b,hb⟩:=xE (decide (x<p))
 have cb:∀ w,Calls Tryz.prog 247 #[fv x,fv p] w λe w'=>e=.returned (.bool b)∧Below w.heap.size w w':=by
  intro w; rw [hb]; exact Gb w x p J J hx hpl
 have t1:b=true→z=x:=λh=>by
  rw [hb] at h
  rw [hz]
  exact Nat.mod_eq_of_lt (by rw [EG, ← hp]; simpa using h)
 have cm:b=false→∀ w,Calls Tryz.prog 267 #[fv x,fv p] w λe w'=>e=.returned (fv z)∧Below w.heap.size w w':=λh w=>by
  rw [hb] at h
  have hle:¬ x<p:=by simpa using h
  have hzx:z+p=x:=by rw [hz,F7 x hx,if_neg om]; omega
  exact Gv w x p z 0 J J hx hpl om om
 have hpc:fv p=.agg #[.int .u64 18446744069414583343,.int .u64 18446744073709551615,.int .u64 18446744073709551615,.int .u64 18446744073709551615]:=by rw [hp]; exact MX
 obtain ⟨x0,x1,x2,x3,fx⟩:=Ae x hx
 have FX:=Lib.hid fx
 have FP:=Lib.hid hpc
 rw [fx, ← hz]
 unfold IW
 clear fx hpc hx hz hp hpl hb
 go_enter Tryz.func240,Tryz.ntmps240
 go_wp2_with (first | ((with_reducible refine AF (d:=some 6) ?_); refine AC J _ _ J (w.heap.size+1) rfl x _ _ _ ((Ab w _ _ _).alloc _) FX.out AU J kZ ?_) | ((with_reducible refine AF (d:=some 8) ?_); refine Bk J _ _ J w.heap.size J p [.int .u64 18446744069414583343,.int .u64 18446744073709551615,.int .u64 18446744073709551615,.int .u64 18446744073709551615] _ (Cq (((Blk.new w _ _).alloc _).alloc _)) FP.out AU J kZ ?_))
 refine (cb _).mono ?_
 rintro e w1 ⟨rfl,k1⟩
 have BM:Blk w1 w.heap.size 366 _:=Gr.blk k1 (((Blk.new w _ _).alloc _).alloc _)
 have BX:Blk w1 (w.heap.size+1) 359 _:=Gr.blk k1 ((Ab w _ _ _).alloc _)
 have BR:Blk w1 (w.heap.size+2) 359 _:=Gr.blk k1 (Ay w _ _ _ _)
 have hB:=Below.gr (AY w _ _ _) k1
 clear k1 cb
 cases b
 ·have cmm:=cm J
  clear cm t1
  go_wp2_with (first | ((with_reducible refine AF (d:=some 12) ?_); refine AC J _ _ J (w.heap.size+1) rfl x _ _ _ BX FX.out AU J kZ ?_) | ((with_reducible refine AF (d:=some 14) ?_); refine Bk J _ _ J w.heap.size J p [.int .u64 18446744069414583343,.int .u64 18446744073709551615,.int .u64 18446744073709551615,.int .u64 18446744073709551615] _ (Cq BM) FP.out AU J kZ ?_))
  refine (cmm _).mono ?_
  rintro e w2 ⟨rfl,k2⟩
  have BR2:=Gr.blk k2 BR
  have hB2:=Below.gr hB k2
  clear k2 cmm
  go_wp2_with ((with_reducible refine AG ?_); refine AB J _ _ _ J (w.heap.size+2) (fcs z) J J _ _ BR2 kZ (by rfl) (AM _) ?_; intro w9 hL9 hB9 hK9)
  exact bodyPost_ret (results_cell_row J _ _ (w.heap.size+2) _ _ (0,0) _ J hL9 AU J kZ) rfl ⟨rfl,hB2.trans (hB9 _ om)⟩
 ·have HZX:=Lib.hid (t1 J)
  clear t1 cm
  go_wp2_with (first | ((with_reducible refine AF (d:=some 11) ?_); refine AC J _ _ J (w.heap.size+1) rfl x _ _ _ BX FX.out AU J kZ ?_) | ((with_reducible refine AG ?_); refine AB J _ _ _ J (w.heap.size+2) (fcs x) J J _ _ BR kZ (by rfl) (AM _) ?_; intro w9 hL9 hB9 hK9))
  exact bodyPost_ret (results_cell_row J _ _ (w.heap.size+2) _ _ (0,0) _ J hL9 AU J kZ) rfl ⟨by rw [HZX.out]; rfl,hB.trans (hB9 _ om)⟩
end
end
section
namespace Fz
open Go.RowKit Go.Lib Sy
def vR (R:Nat→Nat):Nat→Nat
 | 0=>0
 | n+1=>vR R n+R n*18446744073709551616 ^ n
def upd (R:Nat→Nat) (k y:Nat):Nat→Nat:=λt=>if t=k then y else R t
theorem PK {R:Nat→Nat} {k y t:Nat} (h:t≠k):upd R k y t=R t:=if_neg h
theorem Ja {R:Nat→Nat} {k y:Nat} (h:∀ t,R t<18446744073709551616) (hy:y<18446744073709551616) (t:Nat):upd R k y t<18446744073709551616:=by
 unfold upd
 split
 ·exact hy
 ·exact h t
theorem Hj {R S:Nat→Nat}:∀ n,(∀ t,t<n→R t=S t)→vR R n=vR S n
 | 0,_=>rfl
 | n+1,h=>by
  show vR R n+_=vR S n+_
  rw [Hj n λt ht=>h t om,h n om]
theorem Hx (R:Nat→Nat) (k y:Nat):∀ n,k<n→vR (upd R k y) n+R k*18446744073709551616 ^ k=vR R n+y*18446744073709551616 ^ k
 | 0,h=>absurd h (Nat.not_lt_zero _)
 | n+1,h=>by
  show vR (upd R k y) n+upd R k y n*_+_=vR R n+R n*_+_
  by_cases e:k=n
  ·subst e
   rw [show upd R k y k=y from if_pos J,Hj (R:=upd R k y) (S:=R) k λt ht=>if_neg om]
   omega
  ·have h2:=Hx R k y n om
   rw [show upd R k y n=R n from if_neg om]
   omega
theorem KP {R:Nat→Nat} (h:∀ t,R t<18446744073709551616):∀ n,vR R n<18446744073709551616 ^ n
 | 0=>Nat.one_pos
 | n+1=>by
  have h1:=KP h n
  have h2:=h n
  show vR R n+R n*_<_
  rw [Nat.pow_succ]
  have h3:(R n+1)*18446744073709551616 ^ n≤18446744073709551616*18446744073709551616 ^ n:=Nat.mul_le_mul_right _ h2
  rw [Nat.add_mul,Nat.one_mul] at h3
  rw [Nat.mul_comm (18446744073709551616 ^ n)]
  omega
theorem Fy (R:Nat→Nat) (a:Nat):∀ n,vR R (a+n)=vR R a+vR (λt=>R (a+t)) n*18446744073709551616 ^ a
 | 0=>by
  show vR R a=vR R a+0*_
  rw [Nat.zero_mul,Nat.add_zero]
 | n+1=>by
  show vR R (a+n)+R (a+n)*18446744073709551616 ^ (a+n)=vR R a+(vR _ n+R (a+n)*_)*_
  rw [Fy R a n,Nat.add_mul,Nat.mul_assoc, ← Nat.pow_add,Nat.add_comm n a,Nat.add_assoc]
theorem JY:∀ n,vR (λ_=>0) n=0
 | 0=>rfl
 | n+1=>by
  show vR _ n+0*_=0
  rw [JY n,Nat.zero_mul]
def cpy (R:Nat→Nat) (k:Nat):Nat→Nat:=λt=>if t<k then R t else 0
theorem Uq {R:Nat→Nat} (h:∀ t,R t<18446744073709551616) (k t:Nat):cpy R k t<18446744073709551616:=by
 unfold cpy
 split
 ·exact h t
 ·decide
theorem RW (R:Nat→Nat) (k:Nat):upd (cpy R k) k (R k)=cpy R (k+1):=by
 funext t
 unfold upd cpy
 by_cases e:t=k
 ·rw [if_pos e,if_pos om,e]
 ·rw [if_neg e]
  by_cases l:t<k
  ·rw [if_pos l,if_pos om]
  ·rw [if_neg l,if_neg om]
theorem T7 (R:Nat→Nat):vR (cpy R 4) 8=vR R 4:=by
 rw [show (8:Nat)=4+4 from rfl,Fy,Hj (R:=cpy R 4) (S:=R) 4 (λt ht=>if_pos ht),Hj (R:=λt=>cpy R 4 (4+t)) (S:=λ_=>0) 4 (λt _=>if_neg om),JY,Nat.zero_mul,Nat.add_zero]
def rw8 (R:Nat→Nat):Array Value:=#[.int .u64 ((R 0:Nat):Int),.int .u64 ((R 1:Nat):Int),.int .u64 ((R 2:Nat):Int),.int .u64 ((R 3:Nat):Int),.int .u64 ((R 4:Nat):Int),.int .u64 ((R 5:Nat):Int),.int .u64 ((R 6:Nat):Int),.int .u64 ((R 7:Nat):Int)]
theorem Tr {k:Nat} (h:k<8):k=0∨k=1∨k=2∨k=3∨k=4∨k=5∨k=6∨k=7:=om
theorem H7 (R:Nat→Nat) {k o:Nat} (h:k<8) (ho:o=k):(rw8 R)[o]? = some (.int .u64 ((R k:Nat):Int)):=by
 subst ho
 rcases Tr h with rfl|rfl|rfl|rfl|rfl|rfl|rfl|rfl <;> rfl
theorem F4 (R:Nat→Nat) (y:Nat) {k o:Nat} (h:k<8) (ho:o=k):(rw8 R).setIfInBounds o (.int .u64 ((y:Nat):Int))=rw8 (upd R k y):=by
 subst ho
 rcases Tr h with rfl|rfl|rfl|rfl|rfl|rfl|rfl|rfl <;> rfl
theorem F5 (R:Nat→Nat) {k o:Nat} (h:k<8) (ho:o=k):o<(rw8 R).size:=by
 subst ho
 exact h
def modc (M:Nat) (lw:Nat→Nat):Array Value:=((fcs M).toList++([.int .u64 ((lw 0:Nat):Int),.int .u64 ((lw 1:Nat):Int),.int .u64 ((lw 2:Nat):Int)]:List Value)).toArray
theorem Sg (M:Nat) (lw:Nat→Nat) {j o:Nat} (h:j<3) (ho:o=4+j):(modc M lw)[o]? = some (.int .u64 ((lw j:Nat):Int)):=by
 subst ho
 have:j=0∨j=1∨j=2:=om
 rcases this with rfl|rfl|rfl <;> rfl
def wd (x:Nat) (t:Nat):Nat:=x / 18446744073709551616 ^ t%18446744073709551616
theorem Cj (x t:Nat):wd x t<18446744073709551616:=Nat.mod_lt _ dZ
theorem PD (x:Nat):∀ n,vR (wd x) n=x%18446744073709551616 ^ n
 | 0=>by rw [Nat.pow_zero,Nat.mod_one]; rfl
 | n+1=>by
  show vR (wd x) n+wd x n*_=_
  rw [PD x n,Nat.mod_pow_succ,Nat.mul_comm]
  rfl
theorem Mc (x:Nat) {k o:Nat} (h:k<4) (ho:o=k):(fcs x)[o]? = some (.int .u64 ((wd x k:Nat):Int)):=by
 subst ho
 have:o=0∨o=1∨o=2∨o=3:=om
 have e0:wd x 0=x%18446744073709551616:=by unfold wd; rw [Nat.pow_zero,Nat.div_one]
 have e1:wd x 1=x / 18446744073709551616%18446744073709551616:=by unfold wd; rw [Nat.pow_one]
 rcases this with rfl|rfl|rfl|rfl
 ·rw [e0]; rfl
 ·rw [e1]; rfl
 ·rfl
 ·rfl
theorem T' {R:Nat→Nat} (h:∀ t,R t<18446744073709551616):Value.agg #[.int .u64 ((R 0:Nat):Int),.int .u64 ((R 1:Nat):Int),.int .u64 ((R 2:Nat):Int),.int .u64 ((R 3:Nat):Int)]=fv (vR R 4):=by
 rw [Cw _ _ _ _ (h 0) (h 1) (h 2) (h 3)]
 congr 1
 show _=0+R 0*1+R 1*18446744073709551616+R 2*340282366920938463463374607431768211456+R 3*6277101735386680763835789423207666416102355444464034512896
 omega
theorem TW {hi lo x k y l e d r c:Nat} (h1:lo+18446744073709551616*hi=e*d) (h2:x+18446744073709551616*k=lo+r) (h3:y+18446744073709551616*l=x+c):y+18446744073709551616*(hi+k+l)=e*d+r+c:=om
theorem RX {hi k l y e d r c:Nat} (h:y+18446744073709551616*(hi+k+l)=e*d+r+c) (he:e<18446744073709551616) (hd:d<18446744073709551616) (hr:r<18446744073709551616) (hc:c<18446744073709551616):hi+k+l<18446744073709551616:=by
 have h2:e*d≤18446744073709551615*18446744073709551615:=Nat.mul_le_mul om om
 omega
theorem Qy {v v' r P c c' y e d V LS Bi P0:Nat} (h1:v'+r*P=v+y*P) (h2:v+c*P=V+e*LS*Bi) (h3:y+18446744073709551616*c'=e*d+r+c) (hp:P=P0*Bi):v'+c'*(P*18446744073709551616)=V+e*(LS+d*P0)*Bi:=by
 grind
theorem Ut {v v' r P c l x V:Nat} (h1:v'+r*P=v+x*P) (h2:v+c*P=V) (h3:x+18446744073709551616*l=r+c):v'+l*(P*18446744073709551616)=V:=by
 grind
theorem Lu (a b:Nat) (ha:a<18446744073709551616) (hb:b<18446744073709551616):IntKind.u64.wrap ((BitVec.ofInt IntKind.u64.bits (a:Int) ||| BitVec.ofInt IntKind.u64.bits (b:Int)).toNat:Int)=((a ||| b:Nat):Int):=by
 have hl:a ||| b<18446744073709551616:=Nat.or_lt_two_pow (n:=64) ha hb
 have hw2:(BitVec.ofInt 64 (a:Int) ||| BitVec.ofInt 64 (b:Int)).toNat=a ||| b:=by
  rw [BitVec.toNat_or]
  simp only [BitVec.ofInt_natCast,BitVec.toNat_ofNat]
  rw [Nat.mod_eq_of_lt om,Nat.mod_eq_of_lt om]
 show IntKind.u64.wrap ((BitVec.ofInt 64 (a:Int) ||| BitVec.ofInt 64 (b:Int)).toNat:Int)=_
 rw [hw2,wrap_u64 om om]
theorem MV {P:Program} (t:TypeId) (k:IntKind) (a b c:Int) (h:k.wrap ((BitVec.ofInt k.bits a ||| BitVec.ofInt k.bits b).toNat:Int)=c) (w:World):(binOp .or t (.int k a) (.int k b)).run P w=.ok (.int k c) w:=by
 simp only [binOp,ne_eq,not_true_eq_false,if_false,Op.intBits,Sem.run_pure]
 rw [h]
theorem Kw (w:World) (x y hi lo:Nat) (hx:x<18446744073709551616) (hy:y<18446744073709551616) (hlo:lo<18446744073709551616) (he:lo+18446744073709551616*hi=x*y) :
  Calls Tryz.prog 260 #[.int .u64 ((x:Nat):Int),.int .u64 ((y:Nat):Int)] w (Ai w (.tuple #[.int .u64 ((hi:Nat):Int),.int .u64 ((lo:Nat):Int)])) :=
 (EH w x y hi lo hx hy hlo he).mono λe w' ⟨h1,h2⟩=>⟨h1,by rw [h2]; exact Below.refl _ _⟩
theorem I7 (x y:Nat):∃ hi lo:Nat,lo<18446744073709551616∧lo+18446744073709551616*hi=x*y:=⟨x*y / 18446744073709551616,x*y%18446744073709551616,Nat.mod_lt _ dZ,Nat.mod_add_div _ _⟩
theorem UN {x y i c:Nat} {y1 z:Nat→Nat} (h1:vR y1 8=vR (wd x) i*vR (wd y) 4) (h2:vR z 8+c*18446744073709551616 ^ (i+4)=vR y1 8+wd x i*vR (wd y) 4*18446744073709551616 ^ i) (h3:z (i+4)=0) (hi:i<4):vR (upd z (i+4) c) 8=vR (wd x) (i+1)*vR (wd y) 4:=by
 have h4:=Hx z (i+4) c 8 om
 rw [h3,Nat.zero_mul,Nat.add_zero] at h4
 show _=(vR (wd x) i+wd x i*_)*_
 rw [h4,h2,h1]
 grind
theorem wd4 {x:Nat} (hx:x<(2^256)):vR (wd x) 4=x:=by
 rw [PD]
 exact Nat.mod_eq_of_lt hx
end Fz
end
end Go.Proofs.YtdbcombmmnihbaaGreat
