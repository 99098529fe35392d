import Derived.Test.YtgggdbjakcpanaaGreatDoorQCMem
set_option linter.unusedVariables false
set_option linter.unusedSimpArgs false
namespace Go.Proofs.YtgggdbjakcpanaaGreatDoor
namespace Sh
open Go.RowKit Sp
theorem wpList_make_blk {P:Program} (w:World) {ops:Array Oper} {rest:List Oper} {o:Oper} {a:Act} {Q:Exit→Act→World→Prop}
  (hg:o.guard=none) (l c:Operand) (t:TypeId) (hop:o.op=Op.makeSlice t l c)
  (e:TypeId) (z:Value) (bytes:Nat) (ht:P.underlying t=some (.slice e)) (hinfo:(P.info? e).map (fun i=>(i.zero,i.size,i.bytes))=some (some z,1,bytes)) (hz1:z.cells=#[z])
  (kl kc:IntKind) (n:Nat) (x y:Int) (hl:a.eval l=.int kl x) (hc:a.eval c=.int kc y) (hx:x=(n:Int)) (hy:y=(n:Int)) (hbytes:bytes*n≤281474976710656) (h63:n≤9223372036854775807)
  (hK:∀ w',Blk w' w.heap.size e (List.replicate n z).toArray→Below w.heap.size w w'→Hid (w'.heap.size=w.heap.size+1)→wpList P ops Q rest (a.put o.dst (.slice (some ⟨w.heap.size,0,none⟩) n n)) w') :
  wpList P ops Q (o::rest) a w:=by
 subst hx hy
 refine wpList_plain hg fun _ hK'=>?_
 have hrun:=run_make_row' (P:=P) t e z bytes ht hinfo hz1 kl kc n hbytes h63 w
 unfold Oper.wp
 simp [execOp,hop,hl,hc,hrun,Result.andThen]
 exact hK' _ _ (hK _ (Blk.eq_ (Blk.new w e _) (by rw [← toList_madeCells_one,Array.toArray_toList])) ((Below.refl _ _).alloc (Nat.le_refl _) _) (Lib.hid (by simp)))
theorem quiet_of' {P:Program} {f:FuncId} {args:Array Value} {w:World} {n:Nat} {v:Value}
  (h:Calls P f args (w.drewN n) fun e w'=>e=.returned v∧∃ m,w'=(w.drewN n).drewN m):Calls P f args (w.drewN n) fun e w''=>e=.returned v∧∃ m,w''=w.drewN m:=Calls.quiet_of h
end Sh
end Go.Proofs.YtgggdbjakcpanaaGreatDoor
