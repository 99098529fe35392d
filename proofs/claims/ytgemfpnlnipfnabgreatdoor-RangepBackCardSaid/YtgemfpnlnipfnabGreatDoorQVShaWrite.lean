import Derived.Test.YtgemfpnlnipfnabGreatDoorQVShaSched
import Derived.Test.YtgemfpnlnipfnabGreatDoorQVShaSpec
set_option linter.unusedVariables false
set_option linter.unusedSimpArgs false
namespace Go.Proofs.YtgemfpnlnipfnabGreatDoor
section
namespace Sh
open Go.RowKit Sp
def Src (w:World) (A:Option Addr) (m:List UInt8):Prop :=
 m≠[]→∃ b o,A=some ⟨b,o,none⟩∧b<w.heap.size∧∀ j u,m[j]? = some u→w.cell? ⟨b,o+j,none⟩=some (bv u)
theorem Src.keep {w w':World} {A:Option Addr} {m:List UInt8} (h:Src w A m) (hs:w.heap.size≤w'.heap.size) (hk:m≠[]→∀ a,A=some a→a.block<w.heap.size→w'.heap[a.block]? = w.heap[a.block]?):Src w' A m:=fun hm=>by
 obtain ⟨b,o,rfl,hb,hc⟩:=h hm
 exact ⟨b,o,rfl,by omega,fun j u hu=>(World.cell?_of_block (w:=w) (a:=⟨b,o+j,none⟩) (show w'.heap[b]? = w.heap[b]? from hk hm ⟨b,o,none⟩ rfl hb)).trans (hc j u hu)⟩
theorem Src.only {w w':World} {A:Option Addr} {m:List UInt8} {g:Nat} (h:Src w A m) (ho:w.grownBy w' (some g)) (hg:m≠[]→∀ a,A=some a→a.block≠g):Src w' A m :=
 h.keep ho.size fun hm a ha hl=>ho.block _ hl (fun e=>hg hm a ha (by injection e))
theorem Src.below {w w':World} {A:Option Addr} {m:List UInt8} (h:Src w A m) (hb:Below w.heap.size w w'):Src w' A m :=
 h.keep hb.size fun _ _ _ hl=>hb.block _ hl
theorem Nk (s:S8) (blk m:List UInt8) (r q:Nat) (hb:blk.length=64) (hm:r+m.length≤64) :
  (BV s blk q).take (8+r)++(m.map bv++(BV s blk q).drop (8+r+(m.map bv).length))=BV s (laid blk r m) q:=by
 have e1:(BV s blk q).take (8+r)=[wv s.a,wv s.b,wv s.c,wv s.d,wv s.e,wv s.f,wv s.g,wv s.h]++(blk.map bv).take r:=by
  simp only [BV]
  rw [show 8+r=[wv s.a,wv s.b,wv s.c,wv s.d,wv s.e,wv s.f,wv s.g,wv s.h].length+r from rfl,List.take_length_add_append,List.take_append_of_le_length (by simp; omega)]
 have e2:(BV s blk q).drop (8+r+(m.map bv).length)=(blk.map bv).drop (r+m.length)++[.int .i64 (q:Int)]:=by
  simp only [BV]
  rw [show 8+r+(m.map bv).length=[wv s.a,wv s.b,wv s.c,wv s.d,wv s.e,wv s.f,wv s.g,wv s.h].length+(r+m.length) from by simp; omega,List.drop_length_add_append,List.drop_append_of_le_length (by simp; omega)]
 rw [e1,e2]
 simp [BV,laid,List.map_take,List.map_drop]
theorem Ie (s:S8) (blk:List UInt8) (q q':Nat) (hb:blk.length=64):(BV s blk q).toArray.setIfInBounds 72 (.int .i64 (q':Int))=(BV s blk q').toArray:=by
 rw [List.setIfInBounds_toArray]
 congr 1
 simp only [BV]
 rw [show 72=[wv s.a,wv s.b,wv s.c,wv s.d,wv s.e,wv s.f,wv s.g,wv s.h].length+((blk.map bv).length+0) from by simp [hb],List.set_append_right _ _ (by simp),List.set_append_right _ _ (by simp [hb])]
 simp [hb]
theorem IG (s:S8) (blk:List UInt8) (q:Nat) (hb:blk.length=64):(BV s blk q).toArray[72]? = some (.int .i64 (q:Int)):=by
 simp [BV,hb]
theorem Ws {w:World} {A:Option Addr} {m:List UInt8} {c n:Nat} (h:Src w A m) (hn:n≤m.length) (hc:m.length≤c) :
  ∃ A',(∀ W,(Instr.slice 29 (.slice A m.length c) (some (.int .i64 (n:Int))) none none).run Tryz.prog W=.ok (.slice A' (m.length - n) (c - n)) W)∧Src w A' (m.drop n)∧(∀ g,(m≠[]→∀ a,A=some a→a.block≠g)→m.drop n≠[]→∀ a,A'=some a→a.block≠g):=by
 have hu:Tryz.prog.underlying 29=some (.slice (Tryz.prog.elem 29)):=by kernel_rfl
 have hs:∀ W,(sizeOf (Tryz.prog.elem 29)).run Tryz.prog W=.ok 1 W:=fun W=>by kernel_rfl
 refine ⟨if c=n then A else A.map (·.add n),fun W=>?_,?_,?_⟩
 ·rw [run_slice_l W 29 A m.length c hu .i64 (n:Int) (by omega) (by omega),hs]
  simp [sliced]
 ·intro hne
  have hlt:n<m.length:=by
   rcases Nat.lt_or_ge n m.length with h1 | h1
   ·exact h1
   ·exact absurd (List.drop_of_length_le h1) hne
  obtain ⟨b,o,rfl,hb,hcell⟩:=h (by rintro rfl; simp at hlt)
  rw [if_neg (by omega)]
  refine ⟨b,o+n,by simp [EJ],hb,fun j u hu'=>?_⟩
  rw [Nat.add_assoc]
  exact hcell _ u (by rw [← hu',List.getElem?_drop])
 ·intro g hg hne a ha
  have hg:=hg (by rintro rfl; simp at hne)
  by_cases hcn:c=n
  ·rw [if_pos hcn] at ha; exact hg a ha
  ·rw [if_neg hcn] at ha
   cases A with
   | none=>simp at ha
   | some a0 =>
    simp only [Option.map_some,Option.some.injEq] at ha
    subst ha
    have:=hg a0 rfl
    unfold Addr.add; split <;> simpa using this
theorem Ga (g r:Nat) (W:World) (hr:r<64) :
  (Instr.sliceAt 225 (.pointer (some ⟨g,8,none⟩)) (some (.int .i64 (r:Int))) none none).run Tryz.prog W=.ok (.slice (some ⟨g,8+r,none⟩) (64 - r) (64 - r)) W:=by
 have hal:Tryz.prog.arrayLen 225=64:=by kernel_rfl
 have hu:Tryz.prog.underlying 225=some (.array (Tryz.prog.arrayLen 225) (Tryz.prog.elem 225)):=by kernel_rfl
 have hs:∀ W,(sizeOf (Tryz.prog.elem 225)).run Tryz.prog W=.ok 1 W:=fun W=>by kernel_rfl
 rw [run_sliceAt_array_l W 225 ⟨g,8,none⟩ hu .i64 (r:Int) (by omega) (by rw [hal]; omega),hs,hal]
 have e3:¬ 64=r:=by omega
 simp only [slicedAt,Int.toNat_natCast,e3,if_false,Nat.mul_one,EJ,Result.andThen_ok]
theorem WS (s:S8) (blk m':List UInt8) (cs:List Value) (r q n:Nat) (hcs:cs=m'.map bv) (hl:cs.length=n) (hb:blk.length=64) (hn:n≤64 - r) (hr:r<64) :
  ((BV s blk q).take (8+r)++(cs++(BV s blk q).drop (8+r+n))).toArray=(BV s (laid blk r m') q).toArray:=by
 have h:=Nk s blk m' r q hb (by rw [hcs,List.length_map] at hl; omega)
 rw [← h, ← hcs,hl]
theorem VO {w:World} {g b:Nat} (h:TabAt w b) (hg:g≠b) {o:Nat} {v:Value}:TabAt (w.setCell ⟨g,o,none⟩ v) b:=h.block (Below.heap_setCell w _ v b (fun e=>hg e.symm))
def ME:Value→Nat
 | .slice _ n _=>n
 | _=>0
theorem Ju (m:List UInt8):∀ v∈m.map bv,v.oneCell'=true:=by simp [bv,Value.oneCell']
end Sh
end
section
namespace Sh
open Go.RowKit Sp
set_option maxHeartbeats 400000 in
set_option maxRecDepth 100000 in
theorem El (w:World) (g:Nat) (l m:List UInt8) (A:Option Addr) (c:Nat) (h:HashIs w g l) (hs:Src w A m) (hA:m≠[]→∀ a,A=some a→a.block≠g) (ht:TabAt w 1) (hg:g≠1)
    (hc:m.length≤c) (hmax:c≤9223372036854775807) (hlm:l.length+m.length≤9223372036854775807) :
    Calls Tryz.prog 131 #[.pointer (some ⟨g,0,none⟩),.slice A m.length c] w fun e w'=>e=.returned (.tuple #[])∧w.grownBy w' (some g)∧HashIs w' g (l++m):=by
  have HT:=Lib.hid ht
  have H0:=Lib.hid h
  have HS:=Lib.hid hs
  have HA:=Lib.hid hA
  clear ht h hs hA
  go_enter Tryz.func131,Tryz.ntmps131
  go_wp2
  go_loopw [1] (fun v wr=>∃ (k:Nat) (A':Option Addr),k≤m.length∧v=.slice A' (m.length - k) (c - k)∧Hid (Src wr A' (m.drop k)∧(m.drop k≠[]→∀ a,A'=some a→a.block≠g)∧w.grownBy wr (some g)∧HashIs wr g (l++m.take k)))
    (fun v _=>ME v)
  case atStart =>
    exact ⟨0,A,by omega,rfl,Lib.hid ⟨by simpa using HS.out,by simpa using HA.out,World.grownBy.refl _ _,by simpa using H0.out⟩⟩
  case round =>
    obtain ⟨k,A',hk,rfl,HR⟩:=hrel
    obtain ⟨hs,hA,ho,blk,hw,hb⟩:=HR.out
    by_cases hlt:k<m.length
    · obtain ⟨q,hq⟩:∃ q,q=(l++m.take k).length:=⟨_,rfl⟩
      obtain ⟨r,hr⟩:∃ r,r=q%64:=⟨_,rfl⟩
      have hql:q=l.length+k:=by rw [hq]; simp; omega
      have hr64:r<64:=by omega
      have hrq:(q:Int)%64=(r:Int):=by omega
      have hq0:(q:Int)≤9223372036854775807:=by omega
      obtain ⟨n,hn⟩:∃ n,n=Nat.min (m.length - k) (64 - r):=⟨_,rfl⟩
      have hn1:n≤m.length - k∧n≤64 - r∧(n=m.length - k∨n=64 - r):=by
        rw [hn]; exact ⟨Nat.min_le_left _ _,Nat.min_le_right _ _,by rcases Nat.le_total (m.length - k) (64 - r) with h | h <;> simp [Nat.min_def] <;> omega⟩
      obtain ⟨hn1,hn2,hn3⟩:=hn1
      have hn0:0<n:=by omega
      have hqn:(q:Int)+(n:Int)≤9223372036854775807:=by omega
      obtain ⟨L,hL⟩:∃ L,L=l++m.take k:=⟨_,rfl⟩
      rw [← hL] at hq hw hb
      rw [← hq] at hb
      obtain ⟨s,hs8⟩:∃ s,s=run L (q / 64):=⟨_,rfl⟩
      rw [← hs8] at hb
      obtain ⟨M,hM⟩:∃ M,M=m.drop k:=⟨_,rfl⟩
      have hMl:M.length=m.length - k:=by rw [hM,List.length_drop]
      rw [← hM] at hs hA
      obtain ⟨b,o,rfl,hbl,hcell⟩:=hs (by rintro rfl; simp at hMl; omega)
      obtain ⟨A'',hcut,hs'',hA''⟩:=Ws (c:=c - k) (n:=n) hs (by omega) (by omega)
      rw [hMl] at hcut
      obtain ⟨m',hm'⟩:∃ m',m'=M.take n:=⟨_,rfl⟩
      have hml':m'.length=n:=by rw [hm',List.length_take]; omega
      obtain ⟨cs,hcs⟩:∃ cs,cs=m'.map bv:=⟨_,rfl⟩
      have hcsl:cs.length=n:=by rw [hcs,List.length_map,hml']
      have hsrc:∀ j v,cs[j]? = some v→wr.cell? ((⟨b,o,none⟩:Addr).add j)=some v:=fun j v hv=>by
        rw [EJ]
        rw [hcs,List.getElem?_map] at hv
        obtain ⟨u,hu,rfl⟩:=Option.map_eq_some_iff.1 hv
        refine hcell j u ?_
        rw [hm',List.getElem?_take] at hu
        split at hu
        · exact hu
        · cases hu
      have hone:∀ v∈cs,v.oneCell'=true:=by rw [hcs]; exact Ju m'
      have hrL:L.length%64=r:=by rw [hr,hq]
      have hwl:=hw.1
      have hsl:=fun W=>Ga g r W hr64
      have hc72:wr.cell? ⟨g,72,none⟩=some (.int .i64 (q:Int)):=(hb.cell 72).trans (IG s blk q hwl)
      have hTr:=HT.out.block (ho.block _ HT.out.lt (fun e=>hg (by injection e with e; exact e.symm)))
      have hlaid:=F0 blk m' r hwl (by omega)
      have HC:=Lib.hid (And.intro hsrc (And.intro hone (And.intro hcsl (And.intro hcs (And.intro hml' (And.intro hwl (And.intro hTr hlaid)))))))
      have HE:=Lib.hid (And.intro hL (And.intro hs8 (And.intro hM (And.intro hMl (And.intro hm' (And.intro hrL (And.intro hq (And.intro hw (And.intro ho (And.intro hs'' (And.intro hA hA'')))))))))))
      have HN:=Lib.hid hn
      have HR:=Lib.hid hr
      have HQ:=Lib.hid hql
      clear hs hA ho hw hsrc hone hcsl hcs hml' hwl hTr hlaid hL hs8 hM hMl hm' hrL hq hs'' hA'' hn hr hql hn3 hcell hbl
      by_cases hf:r+n=64
      all_goals
        have hfb:((r:Int)+(n:Int) == 64)=decide (r+n=64):=by
          rw [Bool.eq_iff_iff]; simp; omega
        simp only [hf,decide_true,decide_false] at hfb
        go_wp2_with (first
          | (refine Ij rfl (.tmp 18) (.tmp 19) 29 29 rfl 5 Tryz.underlying29 (by kernel_rfl) g (8+r) (64 - r) (64 - r) ⟨b,o,none⟩ (m.length - k) (c - k) rfl rfl (BV s blk q) 241 hb cs (by rw [HC.out.2.2.1]; exact HN.out) HC.out.1 (by rw [HC.out.2.2.1,Ej _ _ _ HC.out.2.2.2.2.2.1]; omega) HC.out.2.1 ?_
             rw [HC.out.2.2.1]
             intro w2 hk2 ho2
             have hk2':=hk2.eq_ (WS s blk m' cs r q n HC.out.2.2.2.1 HC.out.2.2.1 HC.out.2.2.2.2.2.1 hn2 hr64)
             have hc72':=(hk2'.cell 72).trans (IG s _ q HC.out.2.2.2.2.2.2.2)
             have hf72:=hk2'.frozen 72
             have HT2:=Lib.hid (TabAt.block HC.out.2.2.2.2.2.2.1 (ho2.block _ HC.out.2.2.2.2.2.2.1.lt (fun e=>hg (by injection e with e; exact e.symm))))
             clear hk2)
          | (go_at_call 194
             refine (WL g _ s (laid blk r m') (q+n) HC.out.2.2.2.2.2.2.2 ((hk2'.set_ 72 _).eq_ (Ie s _ q (q+n) HC.out.2.2.2.2.2.2.2)) (VO HT2.out hg)).mono ?_
             rintro e w4 ⟨rfl,ho4,hk4⟩))
        go_roundw
        case rel =>
          obtain ⟨hL,hs8,hM,hMl,hm',hrL,hq,hw,ho,hs'',hA,hA''⟩:=HE.out
          have hml':=HC.out.2.2.2.2.1
          have hA'':=hA'' g hA
          have eT:l++m.take (k+n)=L++m':=by rw [hL,hm',hM,List.append_assoc,List.take_add]
          have eD:m.drop (k+n)=M.drop n:=by rw [hM,List.drop_drop]
          refine ⟨k+n,A'',by omega,by rw [Nat.sub_sub,Nat.sub_sub],Lib.hid ?_⟩
          rw [eT,eD]
          first
            | (have hx:=OX L blk m' hw (by rw [hrL,hml']; exact hf)
               refine ⟨((hs''.only ho2 hA'').only (Cs (World.grownBy.refl _ _) (.inl rfl) _) hA'').only ho4 hA'',hA'',D8 (D8 ho ho2) (D8 (Cs (World.grownBy.refl _ _) (.inl rfl) _) ho4),laid blk r m',by rw [← hrL]; exact hx.1,hk4.eq_ ?_⟩
               rw [hx.2,hrL,List.length_append,hml', ← hq, ← hs8]
               done)
            | (have hx:=OW L blk m' hw (by rw [hrL,hml']; omega)
               refine ⟨(hs''.only ho2 hA'').only (Cs (World.grownBy.refl _ _) (.inl rfl) _) hA'',hA'',D8 (D8 ho ho2) (Cs (World.grownBy.refl _ _) (.inl rfl) _),laid blk r m',by rw [← hrL]; exact hx.1,((hk2'.set_ 72 _).eq_ (Ie s _ q (q+n) HC.out.2.2.2.2.2.2.2)).eq_ ?_⟩
               rw [hx.2,List.length_append,hml', ← hq, ← hs8]
               done)
        case measure=>simp [ME]; omega
    · obtain rfl:k=m.length:=by omega
      clear hlt hk
      have hz:m.length - m.length=0:=by omega
      go_wp2
      go_end0
      exact ⟨rfl,ho,⟨blk,by simpa using And.intro hw hb⟩⟩
end Sh
end
section
namespace Sh
open Go.RowKit Sp
theorem Ii {P:Program} (w:World) {ops:Array Oper} {rest:List Oper} {o:Oper} {a:Act} {Q:Exit→Act→World→Prop}
  (hg:o.guard=none) (l c:Operand) (t:TypeId) (hop:o.op=Op.makeSlice t l c)
  (e:TypeId) (z:Value) (bytes:Nat) (ht:P.underlying t=some (.slice e)) (hinfo:(P.info? e).map (fun i=>(i.zero,i.size,i.bytes))=some (some z,1,bytes)) (hz1:z.cells=#[z])
  (kl kc:IntKind) (n:Nat) (x y:Int) (hl:a.eval l=.int kl x) (hc:a.eval c=.int kc y) (hx:x=(n:Int)) (hy:y=(n:Int)) (hbytes:bytes*n≤281474976710656) (h63:n≤9223372036854775807)
  (hK:∀ w',Blk w' w.heap.size e (List.replicate n z).toArray→Below w.heap.size w w'→Hid (w'.heap.size=w.heap.size+1)→wpList P ops Q rest (a.put o.dst (.slice (some ⟨w.heap.size,0,none⟩) n n)) w') :
  wpList P ops Q (o::rest) a w:=by
 subst hx hy
 refine wpList_plain hg fun _ hK'=>?_
 have hrun:=run_make_row' (P:=P) t e z bytes ht hinfo hz1 kl kc n hbytes h63 w
 unfold Oper.wp
 simp [execOp,hop,hl,hc,hrun,Result.andThen]
 exact hK' _ _ (hK _ (Blk.eq_ (Blk.new w e _) (by rw [← toList_madeCells_one,Array.toArray_toList])) ((Below.refl _ _).alloc (Nat.le_refl _) _) (Lib.hid (by simp)))
theorem K0 {P:Program} {f:FuncId} {args:Array Value} {w:World} {n:Nat} {v:Value}
  (h:Calls P f args (w.drewN n) fun e w'=>e=.returned v∧∃ m,w'=(w.drewN n).drewN m):Calls P f args (w.drewN n) fun e w''=>e=.returned v∧∃ m,w''=w.drewN m:=Calls.quiet_of h
end Sh
end
section
namespace Sh
open Go.RowKit Sp
def EV (n k:Nat):List UInt8:=128::(List.replicate (B7 n) 0++(List.replicate (8 - k) 0++((List.range 8).map (DI n)).drop (8 - k)))
theorem E7 (n k:Nat) (hk:k≤8):(EV n k).length=B7 n+9:=by
 simp only [EV,List.length_cons,List.length_append,List.length_replicate,List.length_drop,List.length_map,List.length_range]; omega
theorem L6 (n:Nat):EV n 8=pad n:=by simp [EV,pad]
theorem Re (n k:Nat) (hk:k<8):(EV n k).set (B7 n+8 - k) (DI n (7 - k))=EV n (k+1):=by
 have h1:8 - k=(7 - k)+1:=by omega
 have h2:8 - (k+1)=7 - k:=by omega
 have h3:B7 n+8 - k=(B7 n+(7 - k))+1:=by omega
 have h5:7 - k<((List.range 8).map (DI n)).length:=by simp; omega
 unfold EV
 rw [h2,h3,List.set_cons_succ,List.set_append_right _ _ (by simp),h1,List.length_replicate,Nat.add_sub_cancel_left,List.replicate_succ',List.append_assoc,List.set_append_right _ _ (by simp),List.length_replicate,Nat.sub_self,
  List.singleton_append,List.set_cons_zero,List.drop_eq_getElem_cons h5]
 simp
theorem Rd (n:Nat):(List.replicate (B7 n+9) (Value.int .u8 0)).toArray.setIfInBounds 0 (.int .u8 128)=((EV n 0).map bv).toArray:=by
 rw [List.setIfInBounds_toArray,show B7 n+9=(B7 n+8)+1 from rfl,List.replicate_succ,List.set_cons_zero]
 unfold EV
 rw [List.drop_of_length_le (by simp),List.append_nil,List.replicate_append_replicate,List.map_cons,List.map_replicate]
 rfl
theorem PJ (n k:Nat) (hk:k<8):(n:Int)*8 / 2 ^ (8*k)%256=((DI n (7 - k)).toNat:Int):=by
 unfold DI
 rw [show 56 - 8*(7 - k)=8*k from by omega,Int.mul_comm]
 simp
set_option maxHeartbeats 400000 in
set_option maxRecDepth 100000 in
theorem NJ (w:World) (n:Nat) (hn:n≤1000000000000000000) :
  Calls Tryz.prog 196 #[.int .i64 (n:Int)] w fun e w'=>e=.returned (.slice (some ⟨w.heap.size,0,none⟩) (pad n).length (pad n).length)∧Below w.heap.size w w'∧Blk w' w.heap.size 5 ((pad n).map bv).toArray:=by
 obtain ⟨r,hr⟩:∃ r,r=n%64:=⟨_,rfl⟩
 obtain ⟨z,hz⟩:∃ z,z=B7 n:=⟨_,rfl⟩
 have hr1:(n:Int)%64=(r:Int):=by omega
 have hz1:(119 - (r:Int))%64=(z:Int):=by rw [hz,hr]; unfold B7; omega
 have hz2:z<64:=by rw [hz]; unfold B7; omega
 have hr2:r<64:=by omega
 have HZ:=Lib.hid (And.intro hr hz)
 clear hr hz
 go_enter Tryz.func196,Tryz.ntmps196
 go_wp2_with (refine Ii _ rfl (.tmp 13) (.tmp 13) 29 rfl 5 (.int .u8 0) 1 Tryz.underlying29 (by kernel_rfl) rfl .i64 .i64 (z+9) _ _ rfl rfl (by omega) (by omega) (by omega) (by omega) ?_; intro w1 hk1 hb1 hz1'; have hc0:=(hk1.cell 0).trans (show _=some (.int .u8 0) by simp); have hf0:=hk1.frozen 0)
 have hcs:(List.replicate (z+9) (Value.int .u8 0)).toArray.setIfInBounds 0 (.int .u8 128)=((EV n 0).map bv).toArray:=by
  rw [HZ.out.2]; exact Rd n
 have hk1':=(hk1.set_ 0 (.int .u8 128)).eq_ hcs
 have hb1':Below w.heap.size w (w1.setCell ⟨w.heap.size,0,none⟩ (.int .u8 128)):=hb1.setCell (Nat.le_refl _) _
 clear hc0 hf0 hcs hk1 hb1
 go_loopw [20] (fun i wr=>∃ k:Nat,k≤8∧i=.int .i64 k∧Below w.heap.size w wr∧Blk wr w.heap.size 5 ((EV n k).map bv).toArray)
  (fun i _=>8 - (intOf i).toNat)
 case atStart=>exact ⟨0,by omega,rfl,hb1',hk1'⟩
 case round =>
  clear hb1' hk1'
  obtain ⟨k,hk,rfl,hb,hB⟩:=hrel
  by_cases hlt:k<8
  ·have hln:((EV n k).map bv).length=z+9:=by rw [List.length_map,E7 _ _ hk,HZ.out.2]
   obtain ⟨v0,hv0⟩:∃ v0,wr.cell? ⟨w.heap.size,z+8 - k,none⟩=some v0:=by
    have hlt':z+8 - k<((EV n k).map bv).length:=by omega
    exact ⟨((EV n k).map bv)[z+8 - k],(hB.cell _).trans (by rw [List.getElem?_toArray]; exact List.getElem?_eq_getElem hlt')⟩
   have hf0:=hB.frozen (z+8 - k)
   clear hln
   go_wp2
   go_roundw
   case rel =>
    refine ⟨k+1,by omega,by go_num,hb.setCell (Nat.le_refl _) _,(hB.set_ _ _).eq_ ?_⟩
    rw [PJ n k hlt,List.setIfInBounds_toArray]
    have he:=congrArg (List.map bv) (Re n k hlt)
    rw [List.map_set, ← HZ.out.2] at he
    exact congrArg List.toArray he
   case measure=>simp [intOf]; omega
  ·obtain rfl:k=8:=by omega
   go_wp2
   go_ret
   have hpl:(pad n).length=z+9:=by rw [← L6,E7 _ _ (by omega),HZ.out.2]
   rw [hpl]
   exact ⟨rfl,hb,hB.eq_ (by rw [L6])⟩
end Sh
end
end Go.Proofs.YtgemfpnlnipfnabGreatDoor
