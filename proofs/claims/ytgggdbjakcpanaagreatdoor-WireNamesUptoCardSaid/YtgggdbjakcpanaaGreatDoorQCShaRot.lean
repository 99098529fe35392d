import Derived.Test.YtgggdbjakcpanaaGreatDoorRows
import Derived.Test.YtgggdbjakcpanaaGreatDoorQCShaWd
import Derived.Deep.QuietTactic
import Derived.BigQuiet
import Derived.Lib.Hide
set_option linter.unusedVariables false
set_option linter.unusedSimpArgs false
namespace Go.Proofs.YtgggdbjakcpanaaGreatDoor
namespace Sh
open Go.RowKit Sp
theorem ret_u32 {a b:Int} (h:a=b):Ending.returned (.int .u32 a)=.returned (.int .u32 b):=by rw [h]
set_option maxHeartbeats 400000 in
theorem rotL_any (x:Wd) (n:Int) (w:World) (h0:1≤n) (h1:n≤31) :
  Calls Tryz.prog 228 #[.int .u32 (x.toNat:Int),.int .i64 (-n)] w fun e w'=>e=.returned (.int .u32 ((rotr x n.toNat).toNat:Int))∧w=w':=by
 have hn:=neg_and31 n h0 h1
 have hx:=wd_lt x
 have h31:32 - (32 - n)=n:=by omega
 go_enter Tryz.func228,Tryz.ntmps228
 go_wp2
 go_ret
 exact ⟨ret_u32 (by first | exact wd_rot' x n h0 h1 | (simp only [h31]; exact wd_rot' x n h0 h1)),rfl⟩
set_option maxHeartbeats 400000 in
theorem rot_any (x:Wd) (n:Int) (w:World) (h0:1≤n) (h1:n≤31) :
  Calls Tryz.prog 190 #[.int .u32 (x.toNat:Int),.int .i64 n] w fun e w'=>e=.returned (.int .u32 ((rotr x n.toNat).toNat:Int))∧w=w':=by
 go_enter Tryz.func190,Tryz.ntmps190
 go_wp2_with (go_at_call 228; refine (rotL_any x n _ h0 h1).mono ?_; rintro e w' ⟨rfl,rfl⟩)
 go_ret
 exact ⟨rfl,rfl⟩
set_option maxHeartbeats 400000 in
theorem rotR_any (x:Wd) (n:Int) (w:World) (h0:1≤n) (h1:n≤31) :
  Calls Tryz.prog 146 #[.int .u32 (x.toNat:Int),.int .i64 n] w fun e w'=>e=.returned (.int .u32 ((rotr x n.toNat).toNat:Int))∧∃ m,w'=w.drewN m:=by
 go_enter Tryz.func146,Tryz.ntmps146
 go_wp2
 go_quiet (fail)
 go_wp2
 go_ret
 exact ⟨ret_u32 (wd_rot x n h0 h1),_,rfl⟩
end Sh
end Go.Proofs.YtgggdbjakcpanaaGreatDoor
