/-
  No cell of these rows narrows 'for every input' (looked for: loops, veiled, ifaces, maps, wideKeys, modest, calm, conditions, laid).
  DERIVED. THE GIVEN ROWS OF THIS SEAT. 7 by the template 'for every input the law returns true; each argument reads behind the call as it read before'; 0 by the template 'total and deterministic' (their statements: YtnjhnlhicladjabTotals.lean).
  GIVEN WITH THE SEED: the statements are not yours to turn. If you find one false, say at which input.
  Laid BY PROGRAM, IN A SANDBOX (cutbox-rows.mjs): the forced cells as the released guide's own fill.sh prints them over the translation a59589bc3719bd1d… (all of the seat's roots in one cut). By AI agents, Wed Nov 11 2026. No macro, syntax, notation, axiom, sorry.
-/
import Derived.Test.YtnjhnlhicladjabChecked
import GoSem.Claim
import GoSem.ClaimJoined
import GoSem.ClaimMapViews
import Derived.JoinedTies
import Derived.KernelRfl
namespace Go.Proofs.Ytnjhnlhicladjab
/- THE CELL 'sum', in the pinned program and in every row, IS THE sha256 OF THE DUMP (.gsa) THAT YtnjhnlhicladjabProg.lean LOADS. Nothing in Lean hashes anything: it is a label: what it is worth is what the hold of that sum in a sandbox is worth. -/
noncomputable def Try.pinned : Pinned := { name := "ytnjhnlhicladjab", sum := "a59589bc3719bd1db940159fd2d1179a43fc4bebdc4451d4ad65b0bb8aaee6c7", checked := Try.checked }
namespace Rows
def none {H : Type} : Left H := { results := [], args := [] }

/-- 'tollhouselaw03.FeSums': WHATEVER THE INPUT: true; the input reads as it did. -/
def feSumsSpec : ChangeSpec := { name := "feSums", fn := fun _ => fun
  | [d1, d2] => { results := [.lit (.bool true)], args := [d1, d2] }
  | _ => none }
def feSumsRow : OpenClaim := { program := "ytnjhnlhicladjab", sum := "a59589bc3719bd1db940159fd2d1179a43fc4bebdc4451d4ad65b0bb8aaee6c7", func := "tollhouse/tollhouselaw03.FeSums", spec := "feSums", inPlace := ["math/bits.Add64", "math/bits.Sub64"], apart := false }
def FeSumsSaid : Prop := feSumsRow.holds Try.pinned (OpenSpec.ofChange feSumsSpec)

/-- ITS FALSE NEIGHBOUR: 'it returns false'. Refute it at one input. -/
def feSumsWrong : ChangeSpec := { name := "feSums", fn := fun _ => fun
  | [d1, d2] => { results := [.lit (.bool false)], args := [d1, d2] }
  | _ => none }
def FeSumsWrongFalsely : Prop := feSumsRow.holds Try.pinned (OpenSpec.ofChange feSumsWrong)

/-- 'tollhouselaw03.FeTimes': WHATEVER THE INPUT: true; the input reads as it did. -/
def feTimesSpec : ChangeSpec := { name := "feTimes", fn := fun _ => fun
  | [d1, d2] => { results := [.lit (.bool true)], args := [d1, d2] }
  | _ => none }
def feTimesRow : OpenClaim := { program := "ytnjhnlhicladjab", sum := "a59589bc3719bd1db940159fd2d1179a43fc4bebdc4451d4ad65b0bb8aaee6c7", func := "tollhouse/tollhouselaw03.FeTimes", spec := "feTimes", inPlace := ["math/bits.Add64", "math/bits.Sub64"], apart := false }
def FeTimesSaid : Prop := feTimesRow.holds Try.pinned (OpenSpec.ofChange feTimesSpec)

/-- ITS FALSE NEIGHBOUR: 'it returns false'. Refute it at one input. -/
def feTimesWrong : ChangeSpec := { name := "feTimes", fn := fun _ => fun
  | [d1, d2] => { results := [.lit (.bool false)], args := [d1, d2] }
  | _ => none }
def FeTimesWrongFalsely : Prop := feTimesRow.holds Try.pinned (OpenSpec.ofChange feTimesWrong)

/-- 'tollhouselaw03.FeInv': WHATEVER THE INPUT: true; the input reads as it did. -/
def feInvSpec : ChangeSpec := { name := "feInv", fn := fun _ => fun
  | [d] => { results := [.lit (.bool true)], args := [d] }
  | _ => none }
def feInvRow : OpenClaim := { program := "ytnjhnlhicladjab", sum := "a59589bc3719bd1db940159fd2d1179a43fc4bebdc4451d4ad65b0bb8aaee6c7", func := "tollhouse/tollhouselaw03.FeInv", spec := "feInv", inPlace := ["math/bits.Add64", "math/bits.Sub64"], apart := false }
def FeInvSaid : Prop := feInvRow.holds Try.pinned (OpenSpec.ofChange feInvSpec)

/-- ITS FALSE NEIGHBOUR: 'it returns false'. Refute it at one input. -/
def feInvWrong : ChangeSpec := { name := "feInv", fn := fun _ => fun
  | [d] => { results := [.lit (.bool false)], args := [d] }
  | _ => none }
def FeInvWrongFalsely : Prop := feInvRow.holds Try.pinned (OpenSpec.ofChange feInvWrong)

/-- 'tollhouselaw03.FeRoots': WHATEVER THE INPUT: true; the input reads as it did. -/
def feRootsSpec : ChangeSpec := { name := "feRoots", fn := fun _ => fun
  | [d] => { results := [.lit (.bool true)], args := [d] }
  | _ => none }
def feRootsRow : OpenClaim := { program := "ytnjhnlhicladjab", sum := "a59589bc3719bd1db940159fd2d1179a43fc4bebdc4451d4ad65b0bb8aaee6c7", func := "tollhouse/tollhouselaw03.FeRoots", spec := "feRoots", inPlace := ["math/bits.Add64", "math/bits.Sub64"], apart := false }
def FeRootsSaid : Prop := feRootsRow.holds Try.pinned (OpenSpec.ofChange feRootsSpec)

/-- ITS FALSE NEIGHBOUR: 'it returns false'. Refute it at one input. -/
def feRootsWrong : ChangeSpec := { name := "feRoots", fn := fun _ => fun
  | [d] => { results := [.lit (.bool false)], args := [d] }
  | _ => none }
def FeRootsWrongFalsely : Prop := feRootsRow.holds Try.pinned (OpenSpec.ofChange feRootsWrong)

/-- 'tollhouselaw03.FeBytes': WHATEVER THE INPUT: true; the input reads as it did. -/
def feBytesSpec : ChangeSpec := { name := "feBytes", fn := fun _ => fun
  | [d1, d2] => { results := [.lit (.bool true)], args := [d1, d2] }
  | _ => none }
def feBytesRow : OpenClaim := { program := "ytnjhnlhicladjab", sum := "a59589bc3719bd1db940159fd2d1179a43fc4bebdc4451d4ad65b0bb8aaee6c7", func := "tollhouse/tollhouselaw03.FeBytes", spec := "feBytes", inPlace := ["math/bits.Sub64", "math/bits.Add64"], apart := false }
def FeBytesSaid : Prop := feBytesRow.holds Try.pinned (OpenSpec.ofChange feBytesSpec)

/-- ITS FALSE NEIGHBOUR: 'it returns false'. Refute it at one input. -/
def feBytesWrong : ChangeSpec := { name := "feBytes", fn := fun _ => fun
  | [d1, d2] => { results := [.lit (.bool false)], args := [d1, d2] }
  | _ => none }
def FeBytesWrongFalsely : Prop := feBytesRow.holds Try.pinned (OpenSpec.ofChange feBytesWrong)

/-- 'tollhouselaw03.FeBack': WHATEVER THE INPUT: true; the input reads as it did. -/
def feBackSpec : ChangeSpec := { name := "feBack", fn := fun _ => fun
  | [d1, d2] => { results := [.lit (.bool true)], args := [d1, d2] }
  | _ => none }
def feBackRow : OpenClaim := { program := "ytnjhnlhicladjab", sum := "a59589bc3719bd1db940159fd2d1179a43fc4bebdc4451d4ad65b0bb8aaee6c7", func := "tollhouse/tollhouselaw03.FeBack", spec := "feBack", inPlace := ["math/bits.Add64", "math/bits.Sub64"], apart := false }
def FeBackSaid : Prop := feBackRow.holds Try.pinned (OpenSpec.ofChange feBackSpec)

/-- ITS FALSE NEIGHBOUR: 'it returns false'. Refute it at one input. -/
def feBackWrong : ChangeSpec := { name := "feBack", fn := fun _ => fun
  | [d1, d2] => { results := [.lit (.bool false)], args := [d1, d2] }
  | _ => none }
def FeBackWrongFalsely : Prop := feBackRow.holds Try.pinned (OpenSpec.ofChange feBackWrong)

/-- 'tollhouselaw03.FeLaws': WHATEVER THE INPUT: true; the input reads as it did. -/
def feLawsSpec : ChangeSpec := { name := "feLaws", fn := fun _ => fun
  | [d1, d2, d3] => { results := [.lit (.bool true)], args := [d1, d2, d3] }
  | _ => none }
def feLawsRow : OpenClaim := { program := "ytnjhnlhicladjab", sum := "a59589bc3719bd1db940159fd2d1179a43fc4bebdc4451d4ad65b0bb8aaee6c7", func := "tollhouse/tollhouselaw03.FeLaws", spec := "feLaws", inPlace := ["math/bits.Add64", "math/bits.Sub64"], apart := false }
def FeLawsSaid : Prop := feLawsRow.holds Try.pinned (OpenSpec.ofChange feLawsSpec)

/-- ITS FALSE NEIGHBOUR: 'it returns false'. Refute it at one input. -/
def feLawsWrong : ChangeSpec := { name := "feLaws", fn := fun _ => fun
  | [d1, d2, d3] => { results := [.lit (.bool false)], args := [d1, d2, d3] }
  | _ => none }
def FeLawsWrongFalsely : Prop := feLawsRow.holds Try.pinned (OpenSpec.ofChange feLawsWrong)

/- THE SECOND FORM. 'bulk': how many values and letters a reading holds, each counted each time it is reached (what is shared counts as often as it is met; a slice's spare places count too). A statement '..UptoSaid' is the law's where the arguments, and the package variables that the reading takes, are together of bulk at most 1048576: NARROWER than '..Said'. Prove '..Said' where nothing that the law and all that it calls make is longer than what came in: it says more and counts as full. Else prove '..UptoSaid'. A law counts once. -/
mutual
def uptoBulk {H : Type} : DataW H → Nat
  | .lit (.string bytes) => bytes.length + 1
  | .lit _ => 1
  | .nil => 1
  | .ptr d => uptoBulk d + 1
  | .slice elems spare => uptoBulkAll elems + uptoBulkAll spare + 1
  | .agg parts => uptoBulkAll parts + 1
  | .iface _ d => uptoBulk d + 1
  | .map entries => uptoBulkEntries entries + 1
  | .held _ => 1
def uptoBulkAll {H : Type} : List (DataW H) → Nat
  | [] => 0
  | d :: r => uptoBulk d + uptoBulkAll r
def uptoBulkEntries {H : Type} : List (Lit × DataW H) → Nat
  | [] => 0
  | x :: r => uptoBulkEntry x + uptoBulkEntries r
def uptoBulkEntry {H : Type} : Lit × DataW H → Nat
  | (.string bytes, d) => bytes.length + uptoBulk d + 1
  | (_, d) => uptoBulk d + 1
 end
def uptoSmall : (H : Type) → List (DataW H) → Bool := fun _ ds => decide (uptoBulkAll ds ≤ 1048576)
def OpenSpec.upto (s : _root_.Go.ChangeSpec) : _root_.Go.OpenSpec := { _root_.Go.OpenSpec.ofChange s with cond := some uptoSmall }

/-- 'tollhouselaw03.FeSums', WHERE WHAT IT READS IS OF BULK AT MOST 1048576: true; the input reads as it did. -/
def feSumsUptoRow : OpenClaim := { program := "ytnjhnlhicladjab", sum := "a59589bc3719bd1db940159fd2d1179a43fc4bebdc4451d4ad65b0bb8aaee6c7", func := "tollhouse/tollhouselaw03.FeSums", spec := "feSums", inPlace := ["math/bits.Add64", "math/bits.Sub64"], apart := false, narrowed := true }
def FeSumsUptoSaid : Prop := feSumsUptoRow.holds Try.pinned (OpenSpec.upto feSumsSpec)

/-- 'tollhouselaw03.FeTimes', WHERE WHAT IT READS IS OF BULK AT MOST 1048576: true; the input reads as it did. -/
def feTimesUptoRow : OpenClaim := { program := "ytnjhnlhicladjab", sum := "a59589bc3719bd1db940159fd2d1179a43fc4bebdc4451d4ad65b0bb8aaee6c7", func := "tollhouse/tollhouselaw03.FeTimes", spec := "feTimes", inPlace := ["math/bits.Add64", "math/bits.Sub64"], apart := false, narrowed := true }
def FeTimesUptoSaid : Prop := feTimesUptoRow.holds Try.pinned (OpenSpec.upto feTimesSpec)

/-- 'tollhouselaw03.FeInv', WHERE WHAT IT READS IS OF BULK AT MOST 1048576: true; the input reads as it did. -/
def feInvUptoRow : OpenClaim := { program := "ytnjhnlhicladjab", sum := "a59589bc3719bd1db940159fd2d1179a43fc4bebdc4451d4ad65b0bb8aaee6c7", func := "tollhouse/tollhouselaw03.FeInv", spec := "feInv", inPlace := ["math/bits.Add64", "math/bits.Sub64"], apart := false, narrowed := true }
def FeInvUptoSaid : Prop := feInvUptoRow.holds Try.pinned (OpenSpec.upto feInvSpec)

/-- 'tollhouselaw03.FeRoots', WHERE WHAT IT READS IS OF BULK AT MOST 1048576: true; the input reads as it did. -/
def feRootsUptoRow : OpenClaim := { program := "ytnjhnlhicladjab", sum := "a59589bc3719bd1db940159fd2d1179a43fc4bebdc4451d4ad65b0bb8aaee6c7", func := "tollhouse/tollhouselaw03.FeRoots", spec := "feRoots", inPlace := ["math/bits.Add64", "math/bits.Sub64"], apart := false, narrowed := true }
def FeRootsUptoSaid : Prop := feRootsUptoRow.holds Try.pinned (OpenSpec.upto feRootsSpec)

/-- 'tollhouselaw03.FeBytes', WHERE WHAT IT READS IS OF BULK AT MOST 1048576: true; the input reads as it did. -/
def feBytesUptoRow : OpenClaim := { program := "ytnjhnlhicladjab", sum := "a59589bc3719bd1db940159fd2d1179a43fc4bebdc4451d4ad65b0bb8aaee6c7", func := "tollhouse/tollhouselaw03.FeBytes", spec := "feBytes", inPlace := ["math/bits.Sub64", "math/bits.Add64"], apart := false, narrowed := true }
def FeBytesUptoSaid : Prop := feBytesUptoRow.holds Try.pinned (OpenSpec.upto feBytesSpec)

/-- 'tollhouselaw03.FeBack', WHERE WHAT IT READS IS OF BULK AT MOST 1048576: true; the input reads as it did. -/
def feBackUptoRow : OpenClaim := { program := "ytnjhnlhicladjab", sum := "a59589bc3719bd1db940159fd2d1179a43fc4bebdc4451d4ad65b0bb8aaee6c7", func := "tollhouse/tollhouselaw03.FeBack", spec := "feBack", inPlace := ["math/bits.Add64", "math/bits.Sub64"], apart := false, narrowed := true }
def FeBackUptoSaid : Prop := feBackUptoRow.holds Try.pinned (OpenSpec.upto feBackSpec)

/-- 'tollhouselaw03.FeLaws', WHERE WHAT IT READS IS OF BULK AT MOST 1048576: true; the input reads as it did. -/
def feLawsUptoRow : OpenClaim := { program := "ytnjhnlhicladjab", sum := "a59589bc3719bd1db940159fd2d1179a43fc4bebdc4451d4ad65b0bb8aaee6c7", func := "tollhouse/tollhouselaw03.FeLaws", spec := "feLaws", inPlace := ["math/bits.Add64", "math/bits.Sub64"], apart := false, narrowed := true }
def FeLawsUptoSaid : Prop := feLawsUptoRow.holds Try.pinned (OpenSpec.upto feLawsSpec)

end Rows
end Go.Proofs.Ytnjhnlhicladjab
