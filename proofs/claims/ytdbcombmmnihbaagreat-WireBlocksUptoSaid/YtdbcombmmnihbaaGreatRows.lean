/-
  No cell of these rows narrows 'for every input' (looked for: loops, veiled, ifaces, maps, wideKeys, modest, calm, conditions, laid).
  DERIVED. THE GIVEN ROWS OF THIS SEAT. 4 by the template 'for every input the law returns true; each argument reads behind the call as it read before'; 0 by the template 'total and deterministic' (their statements: YtdbcombmmnihbaaGreatTotals.lean).
  GIVEN WITH THE SEED: the statements are not yours to turn. If you find one false, say at which input.
  Laid BY PROGRAM, IN A SANDBOX (cutbox-rows.mjs): the forced cells as the released guide's own fill.sh prints them over the translation c59cf3fdb631f210… (all of the seat's roots in one cut). By AI agents, Wed Nov 11 2026. No macro, syntax, notation, axiom, sorry.
-/
import Derived.Test.YtdbcombmmnihbaaGreatChecked
import GoSem.Claim
import GoSem.ClaimJoined
import GoSem.ClaimMapViews
import Derived.JoinedTies
import Derived.KernelRfl
namespace Go.Proofs.YtdbcombmmnihbaaGreat
/- THE CELL 'sum', in the pinned program and in every row, IS THE sha256 OF THE DUMP (.gsa) THAT YtdbcombmmnihbaaGreatProg.lean LOADS. Nothing in Lean hashes anything: it is a label: what it is worth is what the hold of that sum in a sandbox is worth. -/
noncomputable def Tryz.pinned : Pinned := { name := "ytdbcombmmnihbaagreat", sum := "c59cf3fdb631f210115dbcdfa71fa1126a0e89c740de5da4522406d3291d0dd9", checked := Tryz.checked }
namespace Rows
def none {H : Type} : Left H := { results := [], args := [] }

/-- 'tollhouselaw12.WireTxs': WHATEVER THE INPUT: true; the input reads as it did. -/
def wireTxsSpec : ChangeSpec := { name := "wireTxs", fn := fun _ => fun
  | [d1, d2] => { results := [.lit (.bool true)], args := [d1, d2] }
  | _ => none }
def wireTxsRow : OpenClaim := { program := "ytdbcombmmnihbaagreat", sum := "c59cf3fdb631f210115dbcdfa71fa1126a0e89c740de5da4522406d3291d0dd9", func := "tollhouse/tollhouselaw12.WireTxs", spec := "wireTxs", inPlace := ["math/bits.Add64", "math/bits.Sub64"], unfollowed := true, recurses := true, apart := false }
def WireTxsSaid : Prop := wireTxsRow.holds Tryz.pinned (OpenSpec.ofChange wireTxsSpec)

/-- ITS FALSE NEIGHBOUR: 'it returns false'. Refute it at one input. -/
def wireTxsWrong : ChangeSpec := { name := "wireTxs", fn := fun _ => fun
  | [d1, d2] => { results := [.lit (.bool false)], args := [d1, d2] }
  | _ => none }
def WireTxsWrongFalsely : Prop := wireTxsRow.holds Tryz.pinned (OpenSpec.ofChange wireTxsWrong)

/-- 'tollhouselaw12.WireBlocks': WHATEVER THE INPUT: true; the input reads as it did. -/
def wireBlocksSpec : ChangeSpec := { name := "wireBlocks", fn := fun _ => fun
  | [d1, d2] => { results := [.lit (.bool true)], args := [d1, d2] }
  | _ => none }
def wireBlocksRow : OpenClaim := { program := "ytdbcombmmnihbaagreat", sum := "c59cf3fdb631f210115dbcdfa71fa1126a0e89c740de5da4522406d3291d0dd9", func := "tollhouse/tollhouselaw12.WireBlocks", spec := "wireBlocks", inPlace := ["math/bits.Add64", "math/bits.Sub64"], unfollowed := true, recurses := true, apart := false }
def WireBlocksSaid : Prop := wireBlocksRow.holds Tryz.pinned (OpenSpec.ofChange wireBlocksSpec)

/-- ITS FALSE NEIGHBOUR: 'it returns false'. Refute it at one input. -/
def wireBlocksWrong : ChangeSpec := { name := "wireBlocks", fn := fun _ => fun
  | [d1, d2] => { results := [.lit (.bool false)], args := [d1, d2] }
  | _ => none }
def WireBlocksWrongFalsely : Prop := wireBlocksRow.holds Tryz.pinned (OpenSpec.ofChange wireBlocksWrong)

/-- 'tollhouselaw12.WireOnly': WHATEVER THE INPUT: true; the input reads as it did. -/
def wireOnlySpec : ChangeSpec := { name := "wireOnly", fn := fun _ => fun
  | [d] => { results := [.lit (.bool true)], args := [d] }
  | _ => none }
def wireOnlyRow : OpenClaim := { program := "ytdbcombmmnihbaagreat", sum := "c59cf3fdb631f210115dbcdfa71fa1126a0e89c740de5da4522406d3291d0dd9", func := "tollhouse/tollhouselaw12.WireOnly", spec := "wireOnly", inPlace := ["math/bits.Add64", "math/bits.Sub64"], unfollowed := true, recurses := true, apart := false }
def WireOnlySaid : Prop := wireOnlyRow.holds Tryz.pinned (OpenSpec.ofChange wireOnlySpec)

/-- ITS FALSE NEIGHBOUR: 'it returns false'. Refute it at one input. -/
def wireOnlyWrong : ChangeSpec := { name := "wireOnly", fn := fun _ => fun
  | [d] => { results := [.lit (.bool false)], args := [d] }
  | _ => none }
def WireOnlyWrongFalsely : Prop := wireOnlyRow.holds Tryz.pinned (OpenSpec.ofChange wireOnlyWrong)

/-- 'tollhouselaw12.WireCut': WHATEVER THE INPUT: true; the input reads as it did. -/
def wireCutSpec : ChangeSpec := { name := "wireCut", fn := fun _ => fun
  | [d1, d2, d3] => { results := [.lit (.bool true)], args := [d1, d2, d3] }
  | _ => none }
def wireCutRow : OpenClaim := { program := "ytdbcombmmnihbaagreat", sum := "c59cf3fdb631f210115dbcdfa71fa1126a0e89c740de5da4522406d3291d0dd9", func := "tollhouse/tollhouselaw12.WireCut", spec := "wireCut", inPlace := ["math/bits.Add64", "math/bits.Sub64"], unfollowed := true, recurses := true, apart := false }
def WireCutSaid : Prop := wireCutRow.holds Tryz.pinned (OpenSpec.ofChange wireCutSpec)

/-- ITS FALSE NEIGHBOUR: 'it returns false'. Refute it at one input. -/
def wireCutWrong : ChangeSpec := { name := "wireCut", fn := fun _ => fun
  | [d1, d2, d3] => { results := [.lit (.bool false)], args := [d1, d2, d3] }
  | _ => none }
def WireCutWrongFalsely : Prop := wireCutRow.holds Tryz.pinned (OpenSpec.ofChange wireCutWrong)

/- THE SECOND FORM. 'bulk': how many values and letters a reading holds, each counted each time it is reached (what is shared counts as often as it is met; a slice's spare places count too). A statement '..UptoSaid' is the law's where the arguments, and the package variables that the reading takes, are together of bulk at most 1048576: NARROWER than '..Said'. Prove '..Said' where nothing that the law and all that it calls make is longer than what came in: it says more and counts as full. Else prove '..UptoSaid'. A law counts once. -/
mutual
def uptoBulk {H : Type} : DataW H → Nat
  | .lit (.string bytes) => bytes.length + 1
  | .lit _ => 1
  | .nil => 1
  | .ptr d => uptoBulk d + 1
  | .slice elems spare => uptoBulkAll elems + uptoBulkAll spare + 1
  | .agg parts => uptoBulkAll parts + 1
  | .iface _ d => uptoBulk d + 1
  | .map entries => uptoBulkEntries entries + 1
  | .held _ => 1
def uptoBulkAll {H : Type} : List (DataW H) → Nat
  | [] => 0
  | d :: r => uptoBulk d + uptoBulkAll r
def uptoBulkEntries {H : Type} : List (Lit × DataW H) → Nat
  | [] => 0
  | x :: r => uptoBulkEntry x + uptoBulkEntries r
def uptoBulkEntry {H : Type} : Lit × DataW H → Nat
  | (.string bytes, d) => bytes.length + uptoBulk d + 1
  | (_, d) => uptoBulk d + 1
 end
def uptoSmall : (H : Type) → List (DataW H) → Bool := fun _ ds => decide (uptoBulkAll ds ≤ 1048576)
def OpenSpec.upto (s : _root_.Go.ChangeSpec) : _root_.Go.OpenSpec := { _root_.Go.OpenSpec.ofChange s with cond := some uptoSmall }

/-- 'tollhouselaw12.WireTxs', WHERE WHAT IT READS IS OF BULK AT MOST 1048576: true; the input reads as it did. -/
def wireTxsUptoRow : OpenClaim := { program := "ytdbcombmmnihbaagreat", sum := "c59cf3fdb631f210115dbcdfa71fa1126a0e89c740de5da4522406d3291d0dd9", func := "tollhouse/tollhouselaw12.WireTxs", spec := "wireTxs", inPlace := ["math/bits.Add64", "math/bits.Sub64"], unfollowed := true, recurses := true, apart := false, narrowed := true }
def WireTxsUptoSaid : Prop := wireTxsUptoRow.holds Tryz.pinned (OpenSpec.upto wireTxsSpec)

/-- 'tollhouselaw12.WireBlocks', WHERE WHAT IT READS IS OF BULK AT MOST 1048576: true; the input reads as it did. -/
def wireBlocksUptoRow : OpenClaim := { program := "ytdbcombmmnihbaagreat", sum := "c59cf3fdb631f210115dbcdfa71fa1126a0e89c740de5da4522406d3291d0dd9", func := "tollhouse/tollhouselaw12.WireBlocks", spec := "wireBlocks", inPlace := ["math/bits.Add64", "math/bits.Sub64"], unfollowed := true, recurses := true, apart := false, narrowed := true }
def WireBlocksUptoSaid : Prop := wireBlocksUptoRow.holds Tryz.pinned (OpenSpec.upto wireBlocksSpec)

/-- 'tollhouselaw12.WireOnly', WHERE WHAT IT READS IS OF BULK AT MOST 1048576: true; the input reads as it did. -/
def wireOnlyUptoRow : OpenClaim := { program := "ytdbcombmmnihbaagreat", sum := "c59cf3fdb631f210115dbcdfa71fa1126a0e89c740de5da4522406d3291d0dd9", func := "tollhouse/tollhouselaw12.WireOnly", spec := "wireOnly", inPlace := ["math/bits.Add64", "math/bits.Sub64"], unfollowed := true, recurses := true, apart := false, narrowed := true }
def WireOnlyUptoSaid : Prop := wireOnlyUptoRow.holds Tryz.pinned (OpenSpec.upto wireOnlySpec)

/-- 'tollhouselaw12.WireCut', WHERE WHAT IT READS IS OF BULK AT MOST 1048576: true; the input reads as it did. -/
def wireCutUptoRow : OpenClaim := { program := "ytdbcombmmnihbaagreat", sum := "c59cf3fdb631f210115dbcdfa71fa1126a0e89c740de5da4522406d3291d0dd9", func := "tollhouse/tollhouselaw12.WireCut", spec := "wireCut", inPlace := ["math/bits.Add64", "math/bits.Sub64"], unfollowed := true, recurses := true, apart := false, narrowed := true }
def WireCutUptoSaid : Prop := wireCutUptoRow.holds Tryz.pinned (OpenSpec.upto wireCutSpec)

end Rows
end Go.Proofs.YtdbcombmmnihbaaGreat
