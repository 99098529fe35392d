import Derived.Test.YtgemfpnlnipfnabGreatDoorQVShaWrite
import Derived.Lib.SlBytesConst
import Derived.Deep.AppendLies
import Derived.OwnWalk
import Derived.Lib.BytesEntry
import Derived.Stop.BytesEq
import Derived.Maps.AppendAt
set_option linter.unusedVariables false
set_option linter.unusedSimpArgs false
namespace Go.Proofs.YtgemfpnlnipfnabGreatDoor
section
namespace Sh
open Go.RowKit Sp
def dv (l:List UInt8):Value:=.agg (l.map bv).toArray
theorem Tk (w:World) (N:Nat) (hN:N=w.heap.size) :
    Calls Tryz.prog 130 #[] w fun e w'=>e=.returned (.pointer (some ⟨N,0,none⟩))∧Below N w w'∧HashIs w' N []∧N<w'.heap.size:=by
  subst hN; exact WB w
theorem Ui (w:World) (g:Nat) (l:List UInt8) (N:Nat) (hN:N=w.heap.size) (h:HashIs w g l) :
    Calls Tryz.prog 195 #[.pointer (some ⟨g,0,none⟩)] w fun e w'=>e=.returned (.pointer (some ⟨N,0,none⟩))∧Below N w w'∧HashIs w' N l∧N<w'.heap.size:=by
  subst hN; exact SK w g l h
theorem Src.of_blk {w:World} {g:Nat} {t:TypeId} {m:List UInt8} (h:Blk w g t (m.map bv).toArray):Src w (some ⟨g,0,none⟩) m:=fun _ =>
  ⟨g,0,rfl,h.lt,fun j u hu=>by rw [Nat.zero_add]; exact (h.cell j).trans (by simp [hu])⟩
theorem Gl (n:Nat):(pad n).length=B7 n+9:=by rw [← L6,E7 _ _ (by omega)]
theorem O4 (l:List UInt8):(C6 l).length%64=0:=by
  unfold C6; rw [List.length_append,Gl]; unfold B7; omega
def D6 (s:S8) (k:Nat):List UInt8:=s.out.take (4*k)++List.replicate (32 - 4*k) 0
theorem DX (s:S8):s.out.length=32:=by simp [S8.out]
theorem E8 (s:S8) (k:Nat) (hk:k≤8):(D6 s k).length=32:=by simp [D6,DX]; omega
theorem V4 (s:S8):D6 s 8=s.out:=by simp [D6,List.take_of_length_le,DX]
theorem K_ (s:S8) (k i:Nat) (hk:k≤8) (hi:i<32):(D6 s k)[i]? = some (if i<4*k then s.byte i else 0):=by
  have hl:=DX s
  unfold D6
  by_cases h:i<4*k
  · rw [if_pos h,List.getElem?_append_left (by rw [List.length_take]; omega),List.getElem?_take,if_pos h]
    simp [S8.out,hi]
  · rw [if_neg h,List.getElem?_append_right (by rw [List.length_take]; omega),List.getElem?_replicate,if_pos (by rw [List.length_take]; omega)]
theorem Rg (s:S8) (k:Nat) (hk:k<8) :
    ((((D6 s k).set (4*k) (s.byte (4*k))).set (4*k+1) (s.byte (4*k+1))).set (4*k+2) (s.byte (4*k+2))).set (4*k+3) (s.byte (4*k+3))=D6 s (k+1):=by
  apply List.ext_getElem?
  intro i
  have hl:=E8 s k (by omega)
  by_cases hi:i<32
  · rw [K_ s (k+1) i (by omega) hi]
    simp only [List.getElem?_set,List.length_set,hl,K_ s k i (by omega) hi]
    by_cases h3:4*k+3=i
    · subst h3; simp [hi]; intro h; omega
    by_cases h2:4*k+2=i
    · subst h2; simp [hi]; intro h; omega
    by_cases h1:4*k+1=i
    · subst h1; simp [hi]; intro h; omega
    by_cases h0:4*k=i
    · subst h0; simp [hi]
    rw [if_neg h3,if_neg h2,if_neg h1,if_neg h0]
    by_cases h:i<4*k
    · rw [if_pos h,if_pos (by omega)]
    · rw [if_neg h,if_neg (by omega)]
  · rw [List.getElem?_eq_none (by simp only [List.length_set,hl]; omega),List.getElem?_eq_none (by rw [E8 s (k+1) (by omega)]; omega)]
theorem Y5 (s:S8) (k:Nat):((s.word k).toNat:Int) / 16777216=((s.byte (4*k)).toNat:Int):=by
  have:=(s.word k).isLt
  unfold S8.byte; rw [show 4*k / 4=k from by omega,show 24 - 8*(4*k%4)=24 from by omega]; simp; omega
theorem Y4 (s:S8) (k:Nat):((s.word k).toNat:Int) / 65536%256=((s.byte (4*k+1)).toNat:Int):=by
  unfold S8.byte; rw [show (4*k+1) / 4=k from by omega,show 24 - 8*((4*k+1)%4)=16 from by omega]; simp
theorem Y3 (s:S8) (k:Nat):((s.word k).toNat:Int) / 256%256=((s.byte (4*k+2)).toNat:Int):=by
  unfold S8.byte; rw [show (4*k+2) / 4=k from by omega,show 24 - 8*((4*k+2)%4)=8 from by omega]; simp
theorem Y0 (s:S8) (k:Nat):((s.word k).toNat:Int)%256=((s.byte (4*k+3)).toNat:Int):=by
  unfold S8.byte; rw [show (4*k+3) / 4=k from by omega,show 24 - 8*((4*k+3)%4)=0 from by omega]; simp
theorem Tb (s:S8) (k:Nat) (hk:k<8) :
    ((((((D6 s k).map bv).toArray.setIfInBounds (4*k) (Value.int .u8 (((s.word k).toNat:Int) / 16777216))).setIfInBounds (4*k+1) (Value.int .u8 (((s.word k).toNat:Int) / 65536%256))).setIfInBounds (4*k+2)
      (Value.int .u8 (((s.word k).toNat:Int) / 256%256))).setIfInBounds (4*k+3) (Value.int .u8 (((s.word k).toNat:Int)%256)))=((D6 s (k+1)).map bv).toArray:=by
  rw [Y5,Y4,Y3,Y0]
  simp only [List.setIfInBounds_toArray]
  have he:=congrArg (List.map bv) (Rg s k hk)
  simp only [List.map_set] at he
  exact congrArg List.toArray he
set_option maxRecDepth 100000 in
theorem PN (s:S8) (k:Nat) (hk:k<8) (W:World):(Instr.index 184 (.agg (S8.list s).toArray) (.int .i64 (k:Int))).run Tryz.prog W=.ok (.int .u32 ((s.word k).toNat:Int)) W:=by
  have h:k=0∨k=1∨k=2∨k=3∨k=4∨k=5∨k=6∨k=7:=by omega
  rcases h with rfl | rfl | rfl | rfl | rfl | rfl | rfl | rfl <;> rfl
end Sh
end
section
namespace Sh
open Go.RowKit Sp
theorem K9 (n:Nat):(pad n).length≤9223372036854775807:=by
  rw [Gl]
  have:B7 n<64:=Nat.mod_lt _ (by omega)
  omega
set_option maxHeartbeats 400000 in
set_option maxRecDepth 100000 in
theorem Iu (w:World) (g:Nat) (l:List UInt8) (h:HashIs w g l) (ht:TabAt w 1) (hlen:l.length≤1000000000000000000) :
    Calls Tryz.prog 132 #[.pointer (some ⟨g,0,none⟩)] w fun e w'=>e=.returned (dv (sum l))∧Below w.heap.size w w':=by
  have hg:=h.lt
  have htl:=ht.lt
  have HT:=Lib.hid ht
  have HH:=Lib.hid h
  clear ht h
  have hc72:∃ blk,LV l blk∧Blk w g 241 (BV (run l (l.length / 64)) blk l.length).toArray:=HH.out
  obtain ⟨blk,hw,hb⟩:=hc72
  have hc72:w.cell? ⟨g,72,none⟩=some (.int .i64 (l.length:Int)):=(hb.cell 72).trans (IG _ _ _ hw.1)
  clear hb hw
  go_enter Tryz.func132,Tryz.ntmps132
  go_wp2_with (first
    | (go_at_call 195
       refine (Ui _ g l (w.heap.size+1) (by simp) (HH.out.below ((Below.refl _ _).alloc (Nat.le_refl _) _) hg)).mono ?_
       rintro e w1 ⟨rfl,hb1,hh1,hl1⟩
       have hr1:=(Blk.new w 23 _).below hb1 (by omega)
       have hbb1:=(((Below.refl w.heap.size w).alloc (Nat.le_refl _) _).trans (hb1.mono (Nat.le_succ _)))
       have hc1:=(hbb1.cell (p:=⟨g,72,none⟩) hg).trans hc72)
    | (go_at_call 196
       refine (NJ _ l.length hlen).mono ?_
       rintro e w2 ⟨rfl,hb2,hk2⟩
       clear hc1)
    | (go_at_call 131
       refine (El _ (w.heap.size+1) l (pad l.length) (some ⟨w1.heap.size,0,none⟩) _ (hh1.below hb2 hl1) (Src.of_blk hk2) (fun _ a ha=>by injection ha with ha; subst ha; show w1.heap.size≠_; omega)
         (HT.out.below (hbb1.trans (hb2.mono hbb1.size)) htl) (by omega) (Nat.le_refl _) (K9 _) (by have:=K9 l.length; have:=Gl l.length; have:B7 l.length<64:=Nat.mod_lt _ (by omega); omega)).mono ?_
       rintro e w3 ⟨rfl,ho3,hh3⟩
       have hbb2:=hbb1.trans (hb2.mono hbb1.size)
       have hbb3:=hbb2.trans (Cb ho3 hbb2.size (Nat.le_succ _))
       have hr3:=(hr1.below hb2 (by omega)).grown ho3 (fun e=>by injection e; omega)
       obtain ⟨blk3,hw3,hk3⟩:=hh3
       obtain ⟨S,hS⟩:∃ S,S=run (l++pad l.length) ((l++pad l.length).length / 64):=⟨_,rfl⟩
       rw [← hS] at hk3
       have HS:=Lib.hid hS
       clear hS hw3 hr1 hk2 hh1)
    | (refine wpList_load_mid rfl 184 (.tmp 18) rfl (w.heap.size+1) 0 rfl (S8.list S) _ (Fj (hk3.alloc _)) Tryz.underlying184 rfl (by kernel_rfl) ?_))
  have hz3:w.heap.size<w3.heap.size:=hr3.lt
  have hz0:(D6 S 0).map bv=List.replicate 32 (.int .u8 0):=by simp [D6,bv]
  go_loopw [20] (fun i wr=>∃ k:Nat,k≤8∧i=.int .i64 k∧Below w.heap.size w wr∧Blk wr w.heap.size 23 (List.replicate 32 (.int .u8 0)).toArray∧Blk wr w3.heap.size 23 ((D6 S k).map bv).toArray)
    (fun i _=>8 - (intOf i).toNat)
  case atStart =>
    exact ⟨0,by omega,rfl,hbb3.alloc (Nat.le_of_lt hz3) _,Blk.eq_ (hr3.alloc _) (by kernel_rfl),Blk.eq_ (Blk.new w3 _ _) (by rw [hz0]; kernel_rfl)⟩
  case round =>
    obtain ⟨k,hk,rfl,hb,hr,hd⟩:=hrel
    clear hr3 hk3 hz0 hbb1 hbb2 hbb3 hb1 hb2 ho3
    by_cases hlt:k<8
    · have hix:=PN S k hlt
      obtain ⟨x,hx⟩:∃ x,x=S.word k:=⟨_,rfl⟩
      rw [← hx] at hix
      have lx:=As x
      have hdl:((D6 S k).map bv).length=32:=by rw [List.length_map,E8 _ _ hk]
      have hcell:∀ j,j<32→∃ v,wr.cell? ⟨w3.heap.size,j,none⟩=some v:=fun j hj =>
        ⟨((D6 S k).map bv)[j],(hd.cell j).trans (by rw [List.getElem?_toArray]; exact List.getElem?_eq_getElem (by omega))⟩
      obtain ⟨v0,h0⟩:=hcell (4*k) (by omega)
      obtain ⟨v1,h1⟩:=hcell (4*k+1) (by omega)
      obtain ⟨v2,h2⟩:=hcell (4*k+2) (by omega)
      obtain ⟨v3,h3⟩:=hcell (4*k+3) (by omega)
      have f0:=hd.frozen (4*k)
      have f1:=hd.frozen (4*k+1)
      have f2:=hd.frozen (4*k+2)
      have f3:=hd.frozen (4*k+3)
      have HX:=Lib.hid hx
      clear hcell hdl hx
      go_wp2
      go_roundw
      case rel =>
        refine ⟨k+1,by omega,by go_num,?_,?_,?_⟩
        · exact (((hb.setCell (Nat.le_of_lt hz3) _).setCell (Nat.le_of_lt hz3) _).setCell (Nat.le_of_lt hz3) _).setCell (Nat.le_of_lt hz3) _
        · exact (((hr.far (by show w.heap.size≠w3.heap.size; omega) _).far (by show w.heap.size≠w3.heap.size; omega) _).far (by show w.heap.size≠w3.heap.size; omega) _).far (by show w.heap.size≠w3.heap.size; omega) _
        · refine ((((hd.set_ _ _).set_ _ _).set_ _ _).set_ _ _).eq_ ?_
          have hx:=HX.out
          subst hx
          exact Tb S k hlt
      case measure=>simp [intOf]; omega
    · obtain rfl:k=8:=by omega
      have hd':=hd.eq_ (by rw [V4]:_=(S.out.map bv).toArray)
      have hsz:(S.out.map bv).toArray.size=32:=by rw [List.size_toArray,List.length_map,DX]
      have hi:(Tryz.prog.info? 23).map (·.size)=some (S.out.map bv).toArray.size:=by rw [hsz]; kernel_rfl
      have hz:(List.replicate 32 (Value.int .u8 0)).toArray.size=(S.out.map bv).toArray.size:=by rw [hsz]; simp
      have HI:=Lib.hid (And.intro hi hz)
      clear hi hz hsz hd
      go_wp2_with (first
        | (refine wpList_load_row rfl 23 (.tmp 4) rfl w3.heap.size rfl 23 _ (0,0) _ hd' Tryz.underlying23 rfl HI.out.1 ?_)
        | (refine wpList_store_row rfl 23 (.tmp 2) (.tmp 51) rfl w.heap.size _ rfl rfl 23 _ hr HI.out.1 HI.out.2 (by simp [bv,Value.oneCell']) ?_))
      have hres:=hr.setRow (S.out.map bv).toArray
      have hsum:S.out=sum l:=by rw [HS.out]; rfl
      exact bodyPost_ret (results_cell_row rfl _ _ w.heap.size 23 _ (0,0) _ rfl hres Tryz.underlying23 rfl HI.out.1) rfl ⟨by rw [hsum]; rfl,Bk hb (Nat.le_refl _) _⟩
end Sh
end
section
namespace Sh
open Go.RowKit Sp
theorem sum_length (l:List UInt8):(sum l).length=32:=DX _
theorem Fi (l:List UInt8):((sum l).map bv).toArray.size=32:=by rw [List.size_toArray,List.length_map,sum_length]
theorem Cz (l:List UInt8):(Tryz.prog.info? 23).map (·.size)=some ((sum l).map bv).toArray.size:=by rw [Fi]; kernel_rfl
theorem G0 (l:List UInt8):((sum l).map bv).toArray.all (·.oneCell')=true:=by simp [bv,Value.oneCell']
set_option maxHeartbeats 400000 in
set_option maxRecDepth 100000 in
theorem of_any (w:World) (A:Option Addr) (m:List UInt8) (c:Nat) (hs:Src w A m) (ht:TabAt w 1) (hc:m.length≤c) (hmax:c≤9223372036854775807) (hm:m.length≤1000000000000000000) :
    Calls Tryz.prog 129 #[.slice A m.length c] w fun e w'=>e=.returned (dv (sum m))∧Below w.heap.size w w':=by
  have htl:=ht.lt
  have HT:=Lib.hid ht
  have HS:=Lib.hid hs
  clear ht hs
  go_enter Tryz.func129,Tryz.ntmps129
  go_wp2_with (first
    | (go_at_call 130
       refine (Tk _ (w.heap.size+1) (by simp)).mono ?_
       rintro e w1 ⟨rfl,hb1,hh1,hl1⟩
       have hr1:=(Blk.new w 23 _).below hb1 (by omega)
       have hbb1:=(((Below.refl w.heap.size w).alloc (Nat.le_refl _) _).trans (hb1.mono (Nat.le_succ _))))
    | (go_at_call 131
       refine (El _ (w.heap.size+1) [] m A c hh1 (HS.out.below hbb1) (fun hne a ha=>by
           obtain ⟨b,o,hA,hlt,_⟩:=HS.out hne
           rw [hA] at ha
           injection ha with ha
           subst ha
           show b≠_
           omega)
         (HT.out.below hbb1 htl) (by omega) hc hmax (by simp; omega)).mono ?_
       rintro e w2 ⟨rfl,ho2,hh2⟩
       have hbb2:=hbb1.trans (Cb ho2 hbb1.size (Nat.le_succ _))
       have hr2:=hr1.grown ho2 (fun e=>by injection e; omega))
    | (go_at_call 132
       refine (Iu _ (w.heap.size+1) m (by simpa using hh2) (HT.out.below hbb2 htl) hm).mono ?_
       rintro e w3 ⟨rfl,hb3⟩
       have hr3:=hr2.below hb3 hr2.lt
       have hbb3:=hbb2.trans (hb3.mono hbb2.size)
       unfold dv)
    | (refine wpList_store_row rfl 23 (.tmp 2) (.tmp 9) rfl w.heap.size _ rfl rfl 23 _ hr3 (Cz m) (by rw [Fi]; rfl) (G0 m) ?_))
  exact bodyPost_ret (results_cell_row rfl _ _ w.heap.size 23 _ (0,0) _ rfl (hr3.setRow _) Tryz.underlying23 rfl (Cz m)) rfl ⟨rfl,Bk hbb3 (Nat.le_refl _) _⟩
end Sh
end
section
namespace Sh
open Go.RowKit Sp
end Sh
end
section
namespace Sh
open Go.RowKit Sp
def OwnB (w:World) (base:Nat) (v:Value) (l:List UInt8):Prop:=w.ownsRow base 5 1 v l.length (l.map bv)
theorem Nj:(Tryz.prog.info? 5).map (fun i=>(i.zero,i.size,i.bytes))=some (some (.int .u8 0),1,1):=by kernel_rfl
theorem OwnB.form {w:World} {base:Nat} {v:Value} {l:List UInt8} (h:OwnB w base v l) (hl:0<l.length) :
  ∃ g cap,v=.slice (some ⟨g,0,none⟩) l.length cap∧base≤g∧g<w.heap.size:=World.ownsRow.form h hl
theorem OwnB.form' {w:World} {base:Nat} {v:Value} {l:List UInt8} (h:OwnB w base v l) (hl:0<l.length) :
  ∃ g n cap,v=.slice (some ⟨g,0,none⟩) n cap∧Hid (n=l.length)∧base≤g∧g<w.heap.size:=by
 obtain ⟨g,cap,h1,h2,h3⟩:=h.form hl
 exact ⟨g,l.length,cap,h1,Lib.hid rfl,h2,h3⟩
theorem OwnB.cap {w:World} {base g n cap:Nat} {l:List UInt8} (h:OwnB w base (.slice (some ⟨g,0,none⟩) n cap) l):l.length≤cap∧cap≤9223372036854775807:=by
 rcases h.2 with ⟨hv,_⟩ | ⟨g',cap',cur,hv,_,_,h1,h2,_⟩
 ·cases hv
 ·injection hv with e1 e2 e3
  subst e3
  exact ⟨h1,by simpa [maxLen] using h2⟩
theorem OwnB.cell {w:World} {base g n cap:Nat} {l:List UInt8} (h:OwnB w base (.slice (some ⟨g,0,none⟩) n cap) l) (j:Nat) (u:UInt8) (hu:l[j]? = some u):w.cell? ⟨g,j,none⟩=some (bv u):=by
 have hj:j<l.length:=(List.getElem?_eq_some_iff.1 hu).1
 have hc:=World.ownsRow.cells h (g:=g) rfl j (bv u) (by simp [hu])
 rwa [EJ,Nat.zero_add] at hc
theorem OwnB.src {w:World} {base g n cap:Nat} {l:List UInt8} (h:OwnB w base (.slice (some ⟨g,0,none⟩) n cap) l) (hl:g<w.heap.size):Src w (some ⟨g,0,none⟩) l:=fun _ =>
 ⟨g,0,rfl,hl,fun j u hu=>by rw [Nat.zero_add]; exact h.cell j u hu⟩
theorem OwnB.alloc {w:World} {base:Nat} {v:Value} {l:List UInt8} (h:OwnB w base v l) (o:Obj):OwnB (w.alloc o) base v l:=World.ownsRow.alloc h o
theorem OwnB.nil (w:World) (base:Nat):OwnB w base (.slice none 0 0) []:=World.ownsRow_nil w base _ _
theorem OwnB.lit (w:World) (base:Nat) (hb:base≤w.heap.size):OwnB (w.alloc (.cells #[] 5)) base (.slice (some ⟨w.heap.size,0,none⟩) 0 0) [] :=
 World.ownsRow_made w #[] 0 hb (by simp [maxLen]) (by simp)
theorem Ct {B base:Nat} {w0 w w':World} {v:Value} {l:List UInt8} (h:Below B w0 w) (hown:OwnB w base v l) (hg:w.grownBy w' v.ownBlock) (hB:B≤base) (hw:B≤w.heap.size):Below B w0 w' :=
 h.grown hg hw (fun k hk=>Nat.le_trans hB (World.ownsRow.lt hown k hk).1)
theorem G1 {P:Program} (w:World) (base:Nat) (t ty e:TypeId) (i:TypeInfo) (size:Nat) (ht:P.underlying t=some (.slice e)) (hi:P.info? e=some i)
  (v:Value) (n:Nat) (xs:List Value) (hown:w.ownsRow base e size v n xs) (c:Nat):(Builtin.append_ #[t,t] ty #[v,.slice none 0 c]).run P w=.ok v w:=by
 rcases hown.2 with ⟨rfl,rfl⟩ | ⟨g,cap,cur,rfl,_,_,hnc,_⟩
 ·simp [Builtin.append_,run_underlying ht,sizeOf,typeInfo,hi,Builtin.lenOf,Builtin.firstCells]
 ·simp [Builtin.append_,run_underlying ht,sizeOf,typeInfo,hi,Builtin.lenOf,Builtin.firstCells,hnc,storeCells]
theorem H8 (w:World) (base:Nat) (v:Value) (l m:List UInt8) (hown:OwnB w base v l) (A:Option Addr) (c:Nat) (hsrc:Src w A m) (hlen:l.length+m.length≤140737488355328) (hbase:base≤w.heap.size) (ty:TypeId) :
  ∃ v' w',(Builtin.append_ #[29,29] ty #[v,.slice A m.length c]).run Tryz.prog w=.ok v' w'∧OwnB w' base v' (l++m)∧w.grownBy w' v.ownBlock:=by
 obtain ⟨i,hi,hz0,hz1,hz2⟩:=info_parts Nj
 by_cases hm:m=[]
 ·subst hm
  cases A with
  | none=>exact ⟨v,w,G1 w base _ _ _ i 1 Tryz.underlying29 hi v _ _ hown c,by simpa using hown,World.grownBy.refl w _⟩
  | some ad =>
   obtain ⟨v',w',h1,h2,h3,_⟩:=run_append_own (P:=Tryz.prog) w base 29 ty 5 i (.int .u8 0) 1 1 Tryz.underlying29 hi hz0 hz1 hz2 rfl (by decide) v l.length (l.map bv) hown ad 0 c [] rfl (by simp) (by simp)
    (by simp [maxLen]; simp at hlen; omega) (by simp at hlen; omega) hbase
   exact ⟨v',w',h1,by simpa [OwnB] using h2,h3⟩
 ·obtain ⟨b,o,rfl,_,hc⟩:=hsrc hm
  obtain ⟨v',w',h1,h2,h3,_⟩:=run_append_own (P:=Tryz.prog) w base 29 ty 5 i (.int .u8 0) 1 1 Tryz.underlying29 hi hz0 hz1 hz2 rfl (by decide) v l.length (l.map bv) hown ⟨b,o,none⟩ m.length c (m.map bv) (by simp)
   (fun j u hu=>by
    rw [EJ]
    rw [List.getElem?_map] at hu
    obtain ⟨x,hx,rfl⟩:=Option.map_eq_some_iff.1 hu
    exact hc j x hx) (Ju m) (by simp [maxLen]; omega) (by omega) hbase
  exact ⟨v',w',h1,by simpa [OwnB] using h2,h3⟩
theorem A5 {w:World} {ops:Array Oper} {rest:List Oper} {o:Oper} {a:Act} {Q:Exit→Act→World→Prop} (hgd:o.guard=none) (s x:Operand)
  (ho:o.op=.call { callee:=.builtin .append,args:=#[s,x],argTypes:=#[29,29] }) (base:Nat) (v:Value) (l:List UInt8) (hs:a.eval s=v) (hown:OwnB w base v l)
  (A:Option Addr) (m:List UInt8) (c:Nat) (hx:a.eval x=.slice A m.length c) (hsrc:Src w A m) (hlen:l.length+m.length≤140737488355328) (hbase:base≤w.heap.size)
  (h:∀ v' w',OwnB w' base v' (l++m)→w.grownBy w' v.ownBlock→wpList Tryz.prog ops Q rest (a.put o.dst v') w'):wpList Tryz.prog ops Q (o::rest) a w:=by
 refine wpList_plain hgd fun K hK=>?_
 obtain ⟨v',w',hrun,h2,h3⟩:=H8 w base v l m hown A c hsrc hlen hbase o.type
 unfold Oper.wp execOp
 simp only [ho,resolve,invoke,builtin,Sem.run_bind,Sem.run_pure,Result.andThen_ok,List.map_toArray,List.map_cons,List.map_nil,hs,hx,hrun]
 exact hK _ _ (h v' w' h2 h3)
end Sh
end
section
namespace Sh
open Go.RowKit Sp
theorem OwnB.mk {w:World} {base:Nat} {v:Value} {l:List UInt8} (h:OwnB w base v l):OwnB w base v l:=h
theorem OwnB.any {w:World} {base:Nat} {v:Value} {l:List UInt8} (h:OwnB w base v l):∃ A cap,v=.slice A l.length cap∧Src w A l∧l.length≤cap∧cap≤9223372036854775807:=by
 rcases Nat.eq_zero_or_pos l.length with h0 | h0
 ·have hl:l=[]:=List.eq_nil_of_length_eq_zero h0
  subst hl
  rcases h.2 with ⟨rfl,_⟩ | ⟨g,cap,cur,rfl,_,_,_,h2,_⟩
  ·exact ⟨none,0,rfl,fun hne=>absurd rfl hne,Nat.le_refl _,by omega⟩
  ·exact ⟨some ⟨g,0,none⟩,cap,rfl,fun hne=>absurd rfl hne,Nat.zero_le _,by simpa [maxLen] using h2⟩
 ·obtain ⟨g,cap,rfl,_,hg⟩:=h.form h0
  exact ⟨some ⟨g,0,none⟩,cap,rfl,h.src hg,h.cap.1,h.cap.2⟩
end Sh
end
section
namespace Sh
open Go.RowKit Sp
theorem RH (x:Nat) (W:World) :
  (Instr.sliceAt 23 (.pointer (some ⟨x,0,none⟩)) none none none).run Tryz.prog W=.ok (.slice (some ⟨x,0,none⟩) 32 32) W:=by
 have hal:Tryz.prog.arrayLen 23=32:=by kernel_rfl
 have hu:Tryz.prog.underlying 23=some (.array (Tryz.prog.arrayLen 23) (Tryz.prog.elem 23)):=by kernel_rfl
 have hs:∀ W,(sizeOf (Tryz.prog.elem 23)).run Tryz.prog W=.ok 1 W:=fun W=>by kernel_rfl
 rw [run_sliceAt_array_all W 23 ⟨x,0,none⟩ hu,hs,hal]
 simp [slicedAt,EJ]
theorem UV {w:World} {g:Nat} {t:TypeId} {l:List UInt8} (h:Blk w g t (l.map bv).toArray):∀ j u,l[j]? = some u→w.cell? ⟨g,j,none⟩=some (bv u):=fun j u hu=>(h.cell j).trans (by simp [hu])
end Sh
end
section
namespace Sh
open Go.RowKit Sp
theorem OwnB.le {w:World} {b b':Nat} {v:Value} {l:List UInt8} (h:OwnB w b v l) (hb:b'≤b):OwnB w b' v l :=
  ⟨h.1,h.2.elim Or.inl (fun ⟨g,cap,cur,hv,hg,r⟩=>Or.inr ⟨g,cap,cur,hv,Nat.le_trans hb hg,r⟩)⟩
set_option maxHeartbeats 1000000 in
set_option maxRecDepth 100000 in
theorem textR_any (w : World) (d : List UInt8) (hd : d.length = 32) :
    Calls Tryz.prog 26 #[.agg (d.map bv).toArray] w fun e w'=>∃ g cap,e=.returned (.slice (some ⟨g,0,none⟩) 32 cap)∧OwnB w' w.heap.size (.slice (some ⟨g,0,none⟩) 32 cap) d∧g<w'.heap.size∧Below w.heap.size w w':=by
  have HD:=Lib.hid hd
  clear hd
  go_enter Tryz.func26,Tryz.ntmps26
  go_wp2
  go_loopw [3,4] (fun v i wr=>∃ (k:Nat) (v0:Value),k≤32∧v0=v∧i=.int .i64 k∧OwnB wr (w.heap.size+1) v0 (d.take k)∧Below w.heap.size w wr∧Blk wr w.heap.size 23 (d.map bv).toArray)
    (fun _ i _=>32 - (intOf i).toNat)
  case atStart=>exact ⟨0,_,by omega,rfl,rfl,OwnB.nil _ _,(Below.refl _ _).alloc (Nat.le_refl _) _,Blk.new _ _ _⟩
  case round =>
    obtain ⟨k,v0,hk,rfl,rfl,hown,hbe,hbk⟩:=hrel
    by_cases hlt:k<32
    · obtain ⟨x, hx⟩ : ∃ x, d[k]? = some x := ⟨d[k]'(by rw [HD.out]; exact hlt), List.getElem?_eq_getElem _⟩
      have hc:=UV hbk k x hx
      unfold bv at hc
      have hbl:=hbk.lt
      have hlen:(d.take k).length≤32:=by rw [List.length_take]; omega
      have HX:=Lib.hid (And.intro hx hlen)
      clear hx hlen
      go_wp2_with (at_builtin
                   refine A5 rfl (.tmp 9) (.tmp 13) rfl (w.heap.size+1) v0 (d.take k) rfl (hown.alloc _) (some ⟨wr.heap.size,0,none⟩) [x] 1 rfl (Src.of_blk (Blk.eq_ (Blk.new wr 5 _) (by rfl))) (by have:=HX.out.2; simp only [List.length_singleton]; omega) (by simp; omega) ?_
                   intro v1 w1 hv1 hg1
                   have hbA:=(Below.refl (w.heap.size+1) wr).alloc (Nat.succ_le_of_lt hbl) (.cells #[.int .u8 (x.toNat:Int)] 5)
                   have hb1:=Ct hbA (hown.alloc _) hg1 (Nat.le_refl _) (by simp; omega))
      go_roundw
      case rel =>
        refine ⟨k+1,v1,by omega,rfl,by go_num,?_,hbe.trans (hb1.mono (Nat.le_succ _)),hbk.below hb1 (Nat.lt_succ_self _)⟩
        have ht:d.take (k+1)=d.take k++[x]:=by
          rw [List.take_succ_eq_append_getElem (by rw [HD.out]; exact hlt)]
          congr 2
          exact (List.getElem?_eq_some_iff.1 HX.out.1).2
        rw [ht]; exact hv1
      case measure=>simp [intOf]; omega
    · obtain rfl:k=32:=by omega
      rw [List.take_of_length_le (by rw [HD.out]; exact Nat.le_refl _)] at hown
      go_wp2
      go_ret
      obtain ⟨g,cap,rfl,_,hg⟩:=hown.form (by rw [HD.out]; omega)
      rw [HD.out] at hown
      exact ⟨g,cap,by rw [HD.out]; rfl,hown.le (Nat.le_succ _),hg,hbe⟩
end Sh
end
section
namespace Sh
open Go.RowKit Sp
theorem OP (n k:Nat) (hk:k≤B7 n):((n+1+k)%64=56)↔k=B7 n:=by unfold B7 at *; omega
def zTo (m:List UInt8) (k:Nat):List UInt8:=m++[128]++List.replicate k 0
theorem Dy (m:List UInt8) (k:Nat):(zTo m k).length=m.length+1+k:=by simp [zTo]; omega
theorem SS (m:List UInt8) (k:Nat):zTo m k++[0]=zTo m (k+1):=by simp [zTo,List.replicate_succ']
def lTo (m:List UInt8) (k:Nat):List UInt8:=zTo m (B7 m.length)++(List.range k).map (DI m.length)
theorem EB (m:List UInt8) (k:Nat):(lTo m k).length=m.length+1+B7 m.length+k:=by simp only [lTo,List.length_append,Dy,List.length_map,List.length_range]
theorem T1 (m:List UInt8) (k:Nat):lTo m k++[DI m.length k]=lTo m (k+1):=by simp [lTo,List.range_succ]
theorem T3 (m:List UInt8):lTo m 8=C6 m:=by simp [lTo,zTo,C6,pad]
theorem Ru (n k:Nat) (_hk:k<8):(8*(n:Int)) / 2 ^ (56 - 8*k)%256=((DI n k).toNat:Int):=by
  unfold DI
  simp
theorem Y6 (x:UInt8) (z:Int) (h:z=(x.toNat:Int)):(Value.int .u8 z)=bv x:=by rw [h]; rfl
set_option maxHeartbeats 400000 in
set_option maxRecDepth 100000 in
theorem O5 (w : World) (A : Option Addr) (m : List UInt8) (c : Nat) (hs : Src w A m) (hm : m.length ≤ 140737488351232) :
    Calls Tryz.prog 134 #[.slice A m.length c] w fun e w'=>∃ g cap,e=.returned (.slice (some ⟨g,0,none⟩) (C6 m).length cap)∧OwnB w' w.heap.size (.slice (some ⟨g,0,none⟩) (C6 m).length cap) (C6 m)∧g<w'.heap.size∧Below w.heap.size w w':=by
  have HS:=Lib.hid hs
  clear hs
  have hz64:B7 m.length<64:=Nat.mod_lt _ (by omega)
  go_enter Tryz.func134,Tryz.ntmps134
  go_wp2_with (first
    | (at_builtin
       refine A5 rfl (.tmp 6) (.tmp 7) rfl w.heap.size _ [] rfl (OwnB.lit w _ (Nat.le_refl _)) A m c rfl (HS.out.below ((Below.refl _ _).alloc (Nat.le_refl _) _)) (by simp; omega) (by simp) ?_
       intro v1 w1 hv1 hg1
       have hb1:=Ct ((Below.refl w.heap.size w).alloc (Nat.le_refl _) (.cells #[] 5)) (OwnB.lit w _ (Nat.le_refl _)) hg1 (Nat.le_refl _) (by simp))
    | (at_builtin
       refine A5 rfl (.tmp 9) (.tmp 10) rfl w.heap.size v1 m rfl (by simpa using hv1.alloc _) (some ⟨w1.heap.size,0,none⟩) [128] 1 rfl (Src.of_blk (Blk.eq_ (Blk.new w1 5 _) (by kernel_rfl))) (by simp; omega) (by have:=hb1.size; simp; omega) ?_
       intro v2 w2 hv2 hg2
       have hb2:=Ct (hb1.alloc hb1.size _) (OwnB.alloc (l:=m) (by simpa using hv1) _) hg2 (Nat.le_refl _) (by have:=hb1.size; simp; omega)))
  clear hg1 hg2
  obtain ⟨g2,n2,cap2,rfl,hn2,_,hl2⟩:=hv2.form' (by simp)
  go_loopw [3] (fun v wr=>∃ k q g cap:Nat,k≤B7 m.length∧Hid (q=m.length+1+k)∧v=.slice (some ⟨g,0,none⟩) q cap∧g<wr.heap.size∧OwnB wr w.heap.size (.slice (some ⟨g,0,none⟩) q cap) (zTo m k)∧Below w.heap.size w wr)
    (fun v _=>m.length+1+B7 m.length - ME v)
  case atStart =>
    exact ⟨0,n2,g2,cap2,Nat.zero_le _,Lib.hid (by rw [hn2.out]; simp),rfl,hl2,by simpa [zTo] using hv2,hb2⟩
  case round =>
    clear hv1 hb1 hv2 hb2 hl2
    obtain ⟨k,q,g,cap,hk,hq,rfl,hgl,hown,hbe⟩:=hrel
    have hqm:q=m.length+1+k:=hq.out
    obtain ⟨r,hr⟩:∃ r,r=q%64:=⟨_,rfl⟩
    have hr1:(q:Int)%64=(r:Int):=by omega
    have hq2:q≤140737488351400:=by omega
    have hr2:(r=56)↔k=B7 m.length:=by rw [hr,hqm]; exact OP _ _ hk
    by_cases hlt:k<B7 m.length
    · have hne : ((r : Int) != 56) = true := by rw [bne_iff_ne]; omega
      clear hqm hr hr2
      go_wp2_with (at_builtin
                   refine A5 rfl (.tmp 16) (.tmp 17) rfl w.heap.size _ (zTo m k) rfl (hown.alloc _) (some ⟨wr.heap.size,0,none⟩) [0] 1 rfl (Src.of_blk (Blk.eq_ (Blk.new wr 5 _) (by kernel_rfl))) (by rw [Dy]; simp; omega) (by have:=hbe.size; simp; omega) ?_
                   intro v3 w3 hv3 hg3
                   have hb3:=Ct (hbe.alloc hbe.size _) (hown.alloc _) hg3 (Nat.le_refl _) (by have:=hbe.size; simp; omega)
                   rw [SS] at hv3
                   obtain ⟨g3,n3,cap3,rfl,hn3,_,hl3⟩:=hv3.form' (by rw [Dy]; omega))
      go_roundw
      case rel=>exact ⟨k+1,n3,g3,cap3,by omega,Lib.hid (by rw [hn3.out,Dy]),rfl,hl3,hv3,hb3⟩
      case measure =>
        have h1:=hq.out
        have h2:=hn3.out
        rw [Dy] at h2
        simp [ME]; omega
    · obtain rfl : k = B7 m.length := by omega
      have hne:((r:Int) != 56)=false:=by simp; omega
      clear hqm hr hr2 hlt
      go_wp2
      go_loopw [3,5] (fun v i wr=>∃ k q g cap:Nat,k≤8∧i=.int .i64 k∧Hid (q=m.length+1+B7 m.length+k)∧v=.slice (some ⟨g,0,none⟩) q cap∧g<wr.heap.size∧OwnB wr w.heap.size (.slice (some ⟨g,0,none⟩) q cap) (lTo m k)∧Below w.heap.size w wr)
        (fun _ i _=>8 - (intOf i).toNat)
      case atStart =>
        exact ⟨0,q,g,cap,by omega,rfl,hq,rfl,hgl,by simpa [lTo] using hown,hbe⟩
      case round =>
        clear hq hgl hown hbe hne hr1 hq2 hk
        obtain ⟨k,q,g,cap,hk,rfl,hq,rfl,hgl,hown,hbe⟩:=hrel
        by_cases hlt:k<8
        · obtain ⟨x, hx⟩ : ∃ x, x = DI m.length k := ⟨_, rfl⟩
          have hb8:=Ru m.length k hlt
          rw [← hx] at hb8
          have HX:=Lib.hid (And.intro hx hb8)
          clear hx hb8
          have hq2:=hq.out
          have hlen:(lTo m k).length≤140737488351400:=by rw [EB]; omega
          have HLN:=Lib.hid hlen
          clear hq2 hlen
          go_wp2_with (at_builtin
                       refine A5 rfl (.tmp 27) (.tmp 34) rfl w.heap.size _ (lTo m k) rfl (hown.alloc _) (some ⟨wr.heap.size,0,none⟩) [x] 1 rfl (Src.of_blk (Blk.eq_ (Blk.new wr 5 _) (by rw [HX.out.2]; rfl))) (by have:=HLN.out; simp; omega) (by have:=hbe.size; simp; omega) ?_
                       intro v3 w3 hv3 hg3
                       have hb3:=Ct (hbe.alloc hbe.size _) (hown.alloc _) hg3 (Nat.le_refl _) (by have:=hbe.size; simp; omega)
                       rw [HX.out.1,T1] at hv3
                       obtain ⟨g3,n3,cap3,rfl,hn3,_,hl3⟩:=hv3.form' (by rw [EB]; omega))
          go_roundw
          case rel=>exact ⟨k+1,n3,g3,cap3,by omega,by go_num,Lib.hid (by rw [hn3.out,EB]),rfl,hl3,hv3,hb3⟩
          case measure=>simp [intOf]; omega
        · obtain rfl:k=8:=by omega
          go_wp2
          go_ret
          rw [T3] at hown
          have hpl:q=(C6 m).length:=by rw [hq.out, ← T3,EB]
          subst hpl
          exact ⟨g,cap,rfl,hown,hgl,hbe⟩
end Sh
end
section
namespace Sh
open Go.RowKit Sp
theorem Us (p:List UInt8) (n i:Nat) (hi:i<64):bt ((p.drop (64*n)).take 64) i=bt p (64*n+i):=by
 unfold bt
 rw [List.getD_eq_getElem?_getD,List.getD_eq_getElem?_getD,List.getElem?_take,if_pos hi,List.getElem?_drop]
def Reads8 (w:World) (g:Nat) (p:List UInt8):Prop:=∀ j u,p[j]? = some u→w.cell? ⟨g,j,none⟩=some (bv u)
theorem Reads8.at_ {w:World} {g:Nat} {p:List UInt8} (h:Reads8 w g p) (j:Nat) (hj:j<p.length):w.cell? ⟨g,j,none⟩=some (.int .u8 (bt p j:Int)):=by
 rw [h j p[j] (List.getElem?_eq_getElem hj)]
 simp [bv,bt,List.getElem?_eq_getElem hj]
theorem Reads8.below {w w':World} {g B:Nat} {p:List UInt8} (h:Reads8 w g p) (hb:Below B w w') (hg:g<B):Reads8 w' g p:=fun j u hu=>(hb.cell (p:=⟨g,j,none⟩) hg).trans (h j u hu)
theorem aU (a b c d:Nat) (ha:a≤255) (hb:b≤255) (hc:c≤255) (hd:d≤255) :
  (a:Int)*16777216+(b:Int)*65536+(c:Int)*256+(d:Int)=((BitVec.ofNat 32 (a*16777216+b*65536+c*256+d)).toNat:Int):=by
 rw [BitVec.toNat_ofNat]; omega
theorem M_ {α:Type} (L M:List α) (k:Nat) (x:α) (hx:L[k]? = some x) (hl:L.length=M.length):(L.take k++M.drop k).set k x=L.take (k+1)++M.drop (k+1):=by
 have hk:k<L.length:=(List.getElem?_eq_some_iff.1 hx).1
 have he:L[k]=x:=(List.getElem?_eq_some_iff.1 hx).2
 have hm:k<M.length:=by omega
 rw [List.set_append_right _ _ (by rw [List.length_take]; omega),List.drop_eq_getElem_cons hm,List.length_take,Nat.min_eq_left (by omega),Nat.sub_self,List.set_cons_zero,List.take_succ_eq_append_getElem hk,he,List.append_assoc]
 rfl
theorem QW {α:Type} (L M:List α) (k:Nat) (hl:L.length=M.length) (hk:k<L.length):(L.take k++M.drop k)[k]? = M[k]?:=by
 rw [List.getElem?_append_right (by rw [List.length_take]; omega),List.length_take,Nat.min_eq_left (by omega),Nat.sub_self,List.getElem?_drop]
 rfl
theorem SV (d a b c e f:Wd):((d.toNat:Int)+((a.toNat:Int)+(b.toNat:Int)+(c.toNat:Int)+(e.toNat:Int)+(f.toNat:Int)))%4294967296=((d+(a+b+c+e+f)).toNat:Int):=by
 simp only [BitVec.toNat_add]; omega
theorem SU (a b c e f u v:Wd):((a.toNat:Int)+(b.toNat:Int)+(c.toNat:Int)+(e.toNat:Int)+(f.toNat:Int)+((u.toNat:Int)+(v.toNat:Int)))%4294967296=((a+b+c+e+f+(u+v)).toNat:Int):=by
 simp only [BitVec.toNat_add]; omega
theorem Y7 {B A:Nat} {w0 w:World} {v0 v1 v2 v3 v4 v5 v6 v7:Value} (h:Below B w0 w) (hA:B≤A) :
  Below B w0 ((((((((w.setCell ⟨A,7,none⟩ v7).setCell ⟨A,6,none⟩ v6).setCell ⟨A,5,none⟩ v5).setCell ⟨A,4,none⟩ v4).setCell ⟨A,3,none⟩ v3).setCell ⟨A,2,none⟩ v2).setCell ⟨A,1,none⟩ v1).setCell ⟨A,0,none⟩ v0) :=
 (((((((h.setCell hA v7).setCell hA v6).setCell hA v5).setCell hA v4).setCell hA v3).setCell hA v2).setCell hA v1).setCell hA v0
theorem YD {w:World} {A:Nat} {t:TypeId} {a b c d e f g h z0 z4:Wd} {y0 y4:Int} (hA:Blk w A t (S8.list ⟨a,b,c,d,e,f,g,h⟩).toArray) (h4:y4=(z4.toNat:Int)) (h0:y0=(z0.toNat:Int)) :
  Blk ((((((((w.setCell ⟨A,7,none⟩ (.int .u32 (g.toNat:Int))).setCell ⟨A,6,none⟩ (.int .u32 (f.toNat:Int))).setCell ⟨A,5,none⟩ (.int .u32 (e.toNat:Int))).setCell ⟨A,4,none⟩ (.int .u32 y4)).setCell ⟨A,3,none⟩ (.int .u32 (c.toNat:Int))).setCell ⟨A,2,none⟩ (.int .u32 (b.toNat:Int))).setCell ⟨A,1,none⟩ (.int .u32 (a.toNat:Int))).setCell ⟨A,0,none⟩ (.int .u32 y0))
   A t (S8.list ⟨z0,a,b,c,z4,e,f,g⟩).toArray:=by
 subst h4 h0
 exact ((((((((hA.set_ 7 _).set_ 6 _).set_ 5 _).set_ 4 _).set_ 3 _).set_ 2 _).set_ 1 _).set_ 0 _).eq_ (by simp [S8.list,wv])
theorem GL (s:S8) (k:Nat) (hk:k<8):(S8.list s)[k]? = some (wv (s.word k)):=by
 have h:k=0∨k=1∨k=2∨k=3∨k=4∨k=5∨k=6∨k=7:=by omega
 rcases h with rfl | rfl | rfl | rfl | rfl | rfl | rfl | rfl <;> rfl
theorem Ra (s t:S8) (k:Nat) (hk:k<8):(s.plus t).word k=s.word k+t.word k:=by
 have h:k=0∨k=1∨k=2∨k=3∨k=4∨k=5∨k=6∨k=7:=by omega
 rcases h with rfl | rfl | rfl | rfl | rfl | rfl | rfl | rfl <;> rfl
theorem W9 (s:S8) (k:Nat):((s.word (k / 4)).toNat:Int) / 2 ^ (24 - 8*(k%4))%256=((s.byte k).toNat:Int):=by
 unfold S8.byte; simp
theorem V3 (s:S8) (k:Nat) (hk:k<32):(s.out.map bv)[k]? = some (bv (s.byte k)):=by simp [S8.out,hk]
end Sh
end
end Go.Proofs.YtgemfpnlnipfnabGreatDoor
