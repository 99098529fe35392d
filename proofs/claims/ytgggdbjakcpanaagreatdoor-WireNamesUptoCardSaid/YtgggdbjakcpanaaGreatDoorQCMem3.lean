import Derived.Test.YtgggdbjakcpanaaGreatDoorQCShaAlive
import Derived.Test.YtgggdbjakcpanaaGreatDoorQCMem2
import Derived.Deep.AppendLies
import Derived.OwnWalk
set_option linter.unusedVariables false
set_option linter.unusedSimpArgs false
namespace Go.Proofs.YtgggdbjakcpanaaGreatDoor
namespace Sh
open Go.RowKit Sp
def OwnB (w:World) (base:Nat) (v:Value) (l:List UInt8):Prop:=w.ownsRow base 5 1 v l.length (l.map bv)
theorem infoByte:(Tryz.prog.info? 5).map (fun i=>(i.zero,i.size,i.bytes))=some (some (.int .u8 0),1,1):=by kernel_rfl
theorem OwnB.form {w:World} {base:Nat} {v:Value} {l:List UInt8} (h:OwnB w base v l) (hl:0<l.length) :
  ∃ g cap,v=.slice (some ⟨g,0,none⟩) l.length cap∧base≤g∧g<w.heap.size:=World.ownsRow.form h hl
theorem OwnB.form' {w:World} {base:Nat} {v:Value} {l:List UInt8} (h:OwnB w base v l) (hl:0<l.length) :
  ∃ g n cap,v=.slice (some ⟨g,0,none⟩) n cap∧Hid (n=l.length)∧base≤g∧g<w.heap.size:=by
 obtain ⟨g,cap,h1,h2,h3⟩:=h.form hl
 exact ⟨g,l.length,cap,h1,Lib.hid rfl,h2,h3⟩
theorem OwnB.cap {w:World} {base g n cap:Nat} {l:List UInt8} (h:OwnB w base (.slice (some ⟨g,0,none⟩) n cap) l):l.length≤cap∧cap≤9223372036854775807:=by
 rcases h.2 with ⟨hv,_⟩ | ⟨g',cap',cur,hv,_,_,h1,h2,_⟩
 ·cases hv
 ·injection hv with e1 e2 e3
  subst e3
  exact ⟨h1,by simpa [maxLen] using h2⟩
theorem OwnB.cell {w:World} {base g n cap:Nat} {l:List UInt8} (h:OwnB w base (.slice (some ⟨g,0,none⟩) n cap) l) (j:Nat) (u:UInt8) (hu:l[j]? = some u):w.cell? ⟨g,j,none⟩=some (bv u):=by
 have hj:j<l.length:=(List.getElem?_eq_some_iff.1 hu).1
 have hc:=World.ownsRow.cells h (g:=g) rfl j (bv u) (by simp [hu])
 rwa [addr_add,Nat.zero_add] at hc
theorem OwnB.src {w:World} {base g n cap:Nat} {l:List UInt8} (h:OwnB w base (.slice (some ⟨g,0,none⟩) n cap) l) (hl:g<w.heap.size):Src w (some ⟨g,0,none⟩) l:=fun _ =>
 ⟨g,0,rfl,hl,fun j u hu=>by rw [Nat.zero_add]; exact h.cell j u hu⟩
theorem OwnB.alloc {w:World} {base:Nat} {v:Value} {l:List UInt8} (h:OwnB w base v l) (o:Obj):OwnB (w.alloc o) base v l:=World.ownsRow.alloc h o
theorem OwnB.nil (w:World) (base:Nat):OwnB w base (.slice none 0 0) []:=World.ownsRow_nil w base _ _
theorem OwnB.lit (w:World) (base:Nat) (hb:base≤w.heap.size):OwnB (w.alloc (.cells #[] 5)) base (.slice (some ⟨w.heap.size,0,none⟩) 0 0) [] :=
 World.ownsRow_made w #[] 0 hb (by simp [maxLen]) (by simp)
theorem below_own {B base:Nat} {w0 w w':World} {v:Value} {l:List UInt8} (h:Below B w0 w) (hown:OwnB w base v l) (hg:w.grownBy w' v.ownBlock) (hB:B≤base) (hw:B≤w.heap.size):Below B w0 w' :=
 h.grown hg hw (fun k hk=>Nat.le_trans hB (World.ownsRow.lt hown k hk).1)
theorem run_append_of_nil {P:Program} (w:World) (base:Nat) (t ty e:TypeId) (i:TypeInfo) (size:Nat) (ht:P.underlying t=some (.slice e)) (hi:P.info? e=some i)
  (v:Value) (n:Nat) (xs:List Value) (hown:w.ownsRow base e size v n xs) (c:Nat):(Builtin.append_ #[t,t] ty #[v,.slice none 0 c]).run P w=.ok v w:=by
 rcases hown.2 with ⟨rfl,rfl⟩ | ⟨g,cap,cur,rfl,_,_,hnc,_⟩
 ·simp [Builtin.append_,run_underlying ht,sizeOf,typeInfo,hi,Builtin.lenOf,Builtin.firstCells]
 ·simp [Builtin.append_,run_underlying ht,sizeOf,typeInfo,hi,Builtin.lenOf,Builtin.firstCells,hnc,storeCells]
theorem run_append_bytes (w:World) (base:Nat) (v:Value) (l m:List UInt8) (hown:OwnB w base v l) (A:Option Addr) (c:Nat) (hsrc:Src w A m) (hlen:l.length+m.length≤140737488355328) (hbase:base≤w.heap.size) (ty:TypeId) :
  ∃ v' w',(Builtin.append_ #[29,29] ty #[v,.slice A m.length c]).run Tryz.prog w=.ok v' w'∧OwnB w' base v' (l++m)∧w.grownBy w' v.ownBlock:=by
 obtain ⟨i,hi,hz0,hz1,hz2⟩:=info_parts infoByte
 by_cases hm:m=[]
 ·subst hm
  cases A with
  | none=>exact ⟨v,w,run_append_of_nil w base _ _ _ i 1 Tryz.underlying29 hi v _ _ hown c,by simpa using hown,World.grownBy.refl w _⟩
  | some ad =>
   obtain ⟨v',w',h1,h2,h3,_⟩:=run_append_own (P:=Tryz.prog) w base 29 ty 5 i (.int .u8 0) 1 1 Tryz.underlying29 hi hz0 hz1 hz2 rfl (by decide) v l.length (l.map bv) hown ad 0 c [] rfl (by simp) (by simp)
    (by simp [maxLen]; simp at hlen; omega) (by simp at hlen; omega) hbase
   exact ⟨v',w',h1,by simpa [OwnB] using h2,h3⟩
 ·obtain ⟨b,o,rfl,_,hc⟩:=hsrc hm
  obtain ⟨v',w',h1,h2,h3,_⟩:=run_append_own (P:=Tryz.prog) w base 29 ty 5 i (.int .u8 0) 1 1 Tryz.underlying29 hi hz0 hz1 hz2 rfl (by decide) v l.length (l.map bv) hown ⟨b,o,none⟩ m.length c (m.map bv) (by simp)
   (fun j u hu=>by
    rw [addr_add]
    rw [List.getElem?_map] at hu
    obtain ⟨x,hx,rfl⟩:=Option.map_eq_some_iff.1 hu
    exact hc j x hx) (oneCell_bv m) (by simp [maxLen]; omega) (by omega) hbase
  exact ⟨v',w',h1,by simpa [OwnB] using h2,h3⟩
theorem wpList_append_bytes {w:World} {ops:Array Oper} {rest:List Oper} {o:Oper} {a:Act} {Q:Exit→Act→World→Prop} (hgd:o.guard=none) (s x:Operand)
  (ho:o.op=.call { callee:=.builtin .append,args:=#[s,x],argTypes:=#[29,29] }) (base:Nat) (v:Value) (l:List UInt8) (hs:a.eval s=v) (hown:OwnB w base v l)
  (A:Option Addr) (m:List UInt8) (c:Nat) (hx:a.eval x=.slice A m.length c) (hsrc:Src w A m) (hlen:l.length+m.length≤140737488355328) (hbase:base≤w.heap.size)
  (h:∀ v' w',OwnB w' base v' (l++m)→w.grownBy w' v.ownBlock→wpList Tryz.prog ops Q rest (a.put o.dst v') w'):wpList Tryz.prog ops Q (o::rest) a w:=by
 refine wpList_plain hgd fun K hK=>?_
 obtain ⟨v',w',hrun,h2,h3⟩:=run_append_bytes w base v l m hown A c hsrc hlen hbase o.type
 unfold Oper.wp execOp
 simp only [ho,resolve,invoke,builtin,Sem.run_bind,Sem.run_pure,Result.andThen_ok,List.map_toArray,List.map_cons,List.map_nil,hs,hx,hrun]
 exact hK _ _ (h v' w' h2 h3)
end Sh
end Go.Proofs.YtgggdbjakcpanaaGreatDoor
