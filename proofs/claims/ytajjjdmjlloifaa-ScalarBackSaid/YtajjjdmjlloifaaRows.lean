/-
  No cell of these rows narrows 'for every input' (looked for: loops, veiled, ifaces, maps, wideKeys, modest, calm, conditions, laid).
  DERIVED. THE GIVEN ROWS OF THIS SEAT. 8 by the template 'for every input the law returns true; each argument reads behind the call as it read before'; 0 by the template 'total and deterministic' (their statements: YtajjjdmjlloifaaTotals.lean).
  GIVEN WITH THE SEED: the statements are not yours to turn. If you find one false, say at which input.
  Laid BY PROGRAM, IN A SANDBOX (cutbox-rows.mjs): the forced cells as the released guide's own fill.sh prints them over the translation 0560a0df39b02fce… (all of the seat's roots in one cut). By AI agents, Wed Nov 11 2026. No macro, syntax, notation, axiom, sorry.
-/
import Derived.Test.YtajjjdmjlloifaaChecked
import GoSem.Claim
import GoSem.ClaimJoined
import GoSem.ClaimMapViews
import Derived.JoinedTies
import Derived.KernelRfl
namespace Go.Proofs.Ytajjjdmjlloifaa
/- THE CELL 'sum', in the pinned program and in every row, IS THE sha256 OF THE DUMP (.gsa) THAT YtajjjdmjlloifaaProg.lean LOADS. Nothing in Lean hashes anything: it is a label: what it is worth is what the hold of that sum in a sandbox is worth. -/
noncomputable def Try.pinned : Pinned := { name := "ytajjjdmjlloifaa", sum := "0560a0df39b02fceee54d03ac27d04d53e4f0e37246e5adfc7e58e685ba45304", checked := Try.checked }
namespace Rows
def none {H : Type} : Left H := { results := [], args := [] }

/-- 'tollhouselaw03.FeRoots': WHATEVER THE INPUT: true; the input reads as it did. -/
def feRootsSpec : ChangeSpec := { name := "feRoots", fn := fun _ => fun
  | [d] => { results := [.lit (.bool true)], args := [d] }
  | _ => none }
def feRootsRow : OpenClaim := { program := "ytajjjdmjlloifaa", sum := "0560a0df39b02fceee54d03ac27d04d53e4f0e37246e5adfc7e58e685ba45304", func := "tollhouse/tollhouselaw03.FeRoots", spec := "feRoots", inPlace := ["math/bits.Add64", "math/bits.Sub64"], apart := false }
def FeRootsSaid : Prop := feRootsRow.holds Try.pinned (OpenSpec.ofChange feRootsSpec)

/-- ITS FALSE NEIGHBOUR: 'it returns false'. Refute it at one input. -/
def feRootsWrong : ChangeSpec := { name := "feRoots", fn := fun _ => fun
  | [d] => { results := [.lit (.bool false)], args := [d] }
  | _ => none }
def FeRootsWrongFalsely : Prop := feRootsRow.holds Try.pinned (OpenSpec.ofChange feRootsWrong)

/-- 'tollhouselaw04.ScalarSums': WHATEVER THE INPUT: true; the input reads as it did. -/
def scalarSumsSpec : ChangeSpec := { name := "scalarSums", fn := fun _ => fun
  | [d1, d2] => { results := [.lit (.bool true)], args := [d1, d2] }
  | _ => none }
def scalarSumsRow : OpenClaim := { program := "ytajjjdmjlloifaa", sum := "0560a0df39b02fceee54d03ac27d04d53e4f0e37246e5adfc7e58e685ba45304", func := "tollhouse/tollhouselaw04.ScalarSums", spec := "scalarSums", inPlace := ["math/bits.Sub64", "math/bits.Add64"], apart := false }
def ScalarSumsSaid : Prop := scalarSumsRow.holds Try.pinned (OpenSpec.ofChange scalarSumsSpec)

/-- ITS FALSE NEIGHBOUR: 'it returns false'. Refute it at one input. -/
def scalarSumsWrong : ChangeSpec := { name := "scalarSums", fn := fun _ => fun
  | [d1, d2] => { results := [.lit (.bool false)], args := [d1, d2] }
  | _ => none }
def ScalarSumsWrongFalsely : Prop := scalarSumsRow.holds Try.pinned (OpenSpec.ofChange scalarSumsWrong)

/-- 'tollhouselaw04.ScalarTimes': WHATEVER THE INPUT: true; the input reads as it did. -/
def scalarTimesSpec : ChangeSpec := { name := "scalarTimes", fn := fun _ => fun
  | [d1, d2] => { results := [.lit (.bool true)], args := [d1, d2] }
  | _ => none }
def scalarTimesRow : OpenClaim := { program := "ytajjjdmjlloifaa", sum := "0560a0df39b02fceee54d03ac27d04d53e4f0e37246e5adfc7e58e685ba45304", func := "tollhouse/tollhouselaw04.ScalarTimes", spec := "scalarTimes", inPlace := ["math/bits.Add64", "math/bits.Sub64"], apart := false }
def ScalarTimesSaid : Prop := scalarTimesRow.holds Try.pinned (OpenSpec.ofChange scalarTimesSpec)

/-- ITS FALSE NEIGHBOUR: 'it returns false'. Refute it at one input. -/
def scalarTimesWrong : ChangeSpec := { name := "scalarTimes", fn := fun _ => fun
  | [d1, d2] => { results := [.lit (.bool false)], args := [d1, d2] }
  | _ => none }
def ScalarTimesWrongFalsely : Prop := scalarTimesRow.holds Try.pinned (OpenSpec.ofChange scalarTimesWrong)

/-- 'tollhouselaw04.ScalarInv': WHATEVER THE INPUT: true; the input reads as it did. -/
def scalarInvSpec : ChangeSpec := { name := "scalarInv", fn := fun _ => fun
  | [d] => { results := [.lit (.bool true)], args := [d] }
  | _ => none }
def scalarInvRow : OpenClaim := { program := "ytajjjdmjlloifaa", sum := "0560a0df39b02fceee54d03ac27d04d53e4f0e37246e5adfc7e58e685ba45304", func := "tollhouse/tollhouselaw04.ScalarInv", spec := "scalarInv", inPlace := ["math/bits.Sub64", "math/bits.Add64"], apart := false }
def ScalarInvSaid : Prop := scalarInvRow.holds Try.pinned (OpenSpec.ofChange scalarInvSpec)

/-- ITS FALSE NEIGHBOUR: 'it returns false'. Refute it at one input. -/
def scalarInvWrong : ChangeSpec := { name := "scalarInv", fn := fun _ => fun
  | [d] => { results := [.lit (.bool false)], args := [d] }
  | _ => none }
def ScalarInvWrongFalsely : Prop := scalarInvRow.holds Try.pinned (OpenSpec.ofChange scalarInvWrong)

/-- 'tollhouselaw04.ScalarSum': WHATEVER THE INPUT: true; the input reads as it did. -/
def scalarSumSpec : ChangeSpec := { name := "scalarSum", fn := fun _ => fun
  | [d] => { results := [.lit (.bool true)], args := [d] }
  | _ => none }
def scalarSumRow : OpenClaim := { program := "ytajjjdmjlloifaa", sum := "0560a0df39b02fceee54d03ac27d04d53e4f0e37246e5adfc7e58e685ba45304", func := "tollhouse/tollhouselaw04.ScalarSum", spec := "scalarSum", inPlace := ["math/bits.Sub64", "math/bits.Add64"], apart := false }
def ScalarSumSaid : Prop := scalarSumRow.holds Try.pinned (OpenSpec.ofChange scalarSumSpec)

/-- ITS FALSE NEIGHBOUR: 'it returns false'. Refute it at one input. -/
def scalarSumWrong : ChangeSpec := { name := "scalarSum", fn := fun _ => fun
  | [d] => { results := [.lit (.bool false)], args := [d] }
  | _ => none }
def ScalarSumWrongFalsely : Prop := scalarSumRow.holds Try.pinned (OpenSpec.ofChange scalarSumWrong)

/-- 'tollhouselaw04.ScalarBytes': WHATEVER THE INPUT: true; the input reads as it did. -/
def scalarBytesSpec : ChangeSpec := { name := "scalarBytes", fn := fun _ => fun
  | [d1, d2] => { results := [.lit (.bool true)], args := [d1, d2] }
  | _ => none }
def scalarBytesRow : OpenClaim := { program := "ytajjjdmjlloifaa", sum := "0560a0df39b02fceee54d03ac27d04d53e4f0e37246e5adfc7e58e685ba45304", func := "tollhouse/tollhouselaw04.ScalarBytes", spec := "scalarBytes", inPlace := ["math/bits.Sub64", "math/bits.Add64"], apart := false }
def ScalarBytesSaid : Prop := scalarBytesRow.holds Try.pinned (OpenSpec.ofChange scalarBytesSpec)

/-- ITS FALSE NEIGHBOUR: 'it returns false'. Refute it at one input. -/
def scalarBytesWrong : ChangeSpec := { name := "scalarBytes", fn := fun _ => fun
  | [d1, d2] => { results := [.lit (.bool false)], args := [d1, d2] }
  | _ => none }
def ScalarBytesWrongFalsely : Prop := scalarBytesRow.holds Try.pinned (OpenSpec.ofChange scalarBytesWrong)

/-- 'tollhouselaw04.ScalarBack': WHATEVER THE INPUT: true; the input reads as it did. -/
def scalarBackSpec : ChangeSpec := { name := "scalarBack", fn := fun _ => fun
  | [d1, d2] => { results := [.lit (.bool true)], args := [d1, d2] }
  | _ => none }
def scalarBackRow : OpenClaim := { program := "ytajjjdmjlloifaa", sum := "0560a0df39b02fceee54d03ac27d04d53e4f0e37246e5adfc7e58e685ba45304", func := "tollhouse/tollhouselaw04.ScalarBack", spec := "scalarBack", inPlace := ["math/bits.Sub64", "math/bits.Add64"], apart := false }
def ScalarBackSaid : Prop := scalarBackRow.holds Try.pinned (OpenSpec.ofChange scalarBackSpec)

/-- ITS FALSE NEIGHBOUR: 'it returns false'. Refute it at one input. -/
def scalarBackWrong : ChangeSpec := { name := "scalarBack", fn := fun _ => fun
  | [d1, d2] => { results := [.lit (.bool false)], args := [d1, d2] }
  | _ => none }
def ScalarBackWrongFalsely : Prop := scalarBackRow.holds Try.pinned (OpenSpec.ofChange scalarBackWrong)

/-- 'tollhouselaw04.ScalarLaws': WHATEVER THE INPUT: true; the input reads as it did. -/
def scalarLawsSpec : ChangeSpec := { name := "scalarLaws", fn := fun _ => fun
  | [d1, d2, d3] => { results := [.lit (.bool true)], args := [d1, d2, d3] }
  | _ => none }
def scalarLawsRow : OpenClaim := { program := "ytajjjdmjlloifaa", sum := "0560a0df39b02fceee54d03ac27d04d53e4f0e37246e5adfc7e58e685ba45304", func := "tollhouse/tollhouselaw04.ScalarLaws", spec := "scalarLaws", inPlace := ["math/bits.Sub64", "math/bits.Add64"], apart := false }
def ScalarLawsSaid : Prop := scalarLawsRow.holds Try.pinned (OpenSpec.ofChange scalarLawsSpec)

/-- ITS FALSE NEIGHBOUR: 'it returns false'. Refute it at one input. -/
def scalarLawsWrong : ChangeSpec := { name := "scalarLaws", fn := fun _ => fun
  | [d1, d2, d3] => { results := [.lit (.bool false)], args := [d1, d2, d3] }
  | _ => none }
def ScalarLawsWrongFalsely : Prop := scalarLawsRow.holds Try.pinned (OpenSpec.ofChange scalarLawsWrong)

/- THE SECOND FORM. 'bulk': how many values and letters a reading holds, each counted each time it is reached (what is shared counts as often as it is met; a slice's spare places count too). A statement '..UptoSaid' is the law's where the arguments, and the package variables that the reading takes, are together of bulk at most 1048576: NARROWER than '..Said'. Prove '..Said' where nothing that the law and all that it calls make is longer than what came in: it says more and counts as full. Else prove '..UptoSaid'. A law counts once. -/
mutual
def uptoBulk {H : Type} : DataW H → Nat
  | .lit (.string bytes) => bytes.length + 1
  | .lit _ => 1
  | .nil => 1
  | .ptr d => uptoBulk d + 1
  | .slice elems spare => uptoBulkAll elems + uptoBulkAll spare + 1
  | .agg parts => uptoBulkAll parts + 1
  | .iface _ d => uptoBulk d + 1
  | .map entries => uptoBulkEntries entries + 1
  | .held _ => 1
def uptoBulkAll {H : Type} : List (DataW H) → Nat
  | [] => 0
  | d :: r => uptoBulk d + uptoBulkAll r
def uptoBulkEntries {H : Type} : List (Lit × DataW H) → Nat
  | [] => 0
  | x :: r => uptoBulkEntry x + uptoBulkEntries r
def uptoBulkEntry {H : Type} : Lit × DataW H → Nat
  | (.string bytes, d) => bytes.length + uptoBulk d + 1
  | (_, d) => uptoBulk d + 1
 end
def uptoSmall : (H : Type) → List (DataW H) → Bool := fun _ ds => decide (uptoBulkAll ds ≤ 1048576)
def OpenSpec.upto (s : _root_.Go.ChangeSpec) : _root_.Go.OpenSpec := { _root_.Go.OpenSpec.ofChange s with cond := some uptoSmall }

/-- 'tollhouselaw03.FeRoots', WHERE WHAT IT READS IS OF BULK AT MOST 1048576: true; the input reads as it did. -/
def feRootsUptoRow : OpenClaim := { program := "ytajjjdmjlloifaa", sum := "0560a0df39b02fceee54d03ac27d04d53e4f0e37246e5adfc7e58e685ba45304", func := "tollhouse/tollhouselaw03.FeRoots", spec := "feRoots", inPlace := ["math/bits.Add64", "math/bits.Sub64"], apart := false, narrowed := true }
def FeRootsUptoSaid : Prop := feRootsUptoRow.holds Try.pinned (OpenSpec.upto feRootsSpec)

/-- 'tollhouselaw04.ScalarSums', WHERE WHAT IT READS IS OF BULK AT MOST 1048576: true; the input reads as it did. -/
def scalarSumsUptoRow : OpenClaim := { program := "ytajjjdmjlloifaa", sum := "0560a0df39b02fceee54d03ac27d04d53e4f0e37246e5adfc7e58e685ba45304", func := "tollhouse/tollhouselaw04.ScalarSums", spec := "scalarSums", inPlace := ["math/bits.Sub64", "math/bits.Add64"], apart := false, narrowed := true }
def ScalarSumsUptoSaid : Prop := scalarSumsUptoRow.holds Try.pinned (OpenSpec.upto scalarSumsSpec)

/-- 'tollhouselaw04.ScalarTimes', WHERE WHAT IT READS IS OF BULK AT MOST 1048576: true; the input reads as it did. -/
def scalarTimesUptoRow : OpenClaim := { program := "ytajjjdmjlloifaa", sum := "0560a0df39b02fceee54d03ac27d04d53e4f0e37246e5adfc7e58e685ba45304", func := "tollhouse/tollhouselaw04.ScalarTimes", spec := "scalarTimes", inPlace := ["math/bits.Add64", "math/bits.Sub64"], apart := false, narrowed := true }
def ScalarTimesUptoSaid : Prop := scalarTimesUptoRow.holds Try.pinned (OpenSpec.upto scalarTimesSpec)

/-- 'tollhouselaw04.ScalarInv', WHERE WHAT IT READS IS OF BULK AT MOST 1048576: true; the input reads as it did. -/
def scalarInvUptoRow : OpenClaim := { program := "ytajjjdmjlloifaa", sum := "0560a0df39b02fceee54d03ac27d04d53e4f0e37246e5adfc7e58e685ba45304", func := "tollhouse/tollhouselaw04.ScalarInv", spec := "scalarInv", inPlace := ["math/bits.Sub64", "math/bits.Add64"], apart := false, narrowed := true }
def ScalarInvUptoSaid : Prop := scalarInvUptoRow.holds Try.pinned (OpenSpec.upto scalarInvSpec)

/-- 'tollhouselaw04.ScalarSum', WHERE WHAT IT READS IS OF BULK AT MOST 1048576: true; the input reads as it did. -/
def scalarSumUptoRow : OpenClaim := { program := "ytajjjdmjlloifaa", sum := "0560a0df39b02fceee54d03ac27d04d53e4f0e37246e5adfc7e58e685ba45304", func := "tollhouse/tollhouselaw04.ScalarSum", spec := "scalarSum", inPlace := ["math/bits.Sub64", "math/bits.Add64"], apart := false, narrowed := true }
def ScalarSumUptoSaid : Prop := scalarSumUptoRow.holds Try.pinned (OpenSpec.upto scalarSumSpec)

/-- 'tollhouselaw04.ScalarBytes', WHERE WHAT IT READS IS OF BULK AT MOST 1048576: true; the input reads as it did. -/
def scalarBytesUptoRow : OpenClaim := { program := "ytajjjdmjlloifaa", sum := "0560a0df39b02fceee54d03ac27d04d53e4f0e37246e5adfc7e58e685ba45304", func := "tollhouse/tollhouselaw04.ScalarBytes", spec := "scalarBytes", inPlace := ["math/bits.Sub64", "math/bits.Add64"], apart := false, narrowed := true }
def ScalarBytesUptoSaid : Prop := scalarBytesUptoRow.holds Try.pinned (OpenSpec.upto scalarBytesSpec)

/-- 'tollhouselaw04.ScalarBack', WHERE WHAT IT READS IS OF BULK AT MOST 1048576: true; the input reads as it did. -/
def scalarBackUptoRow : OpenClaim := { program := "ytajjjdmjlloifaa", sum := "0560a0df39b02fceee54d03ac27d04d53e4f0e37246e5adfc7e58e685ba45304", func := "tollhouse/tollhouselaw04.ScalarBack", spec := "scalarBack", inPlace := ["math/bits.Sub64", "math/bits.Add64"], apart := false, narrowed := true }
def ScalarBackUptoSaid : Prop := scalarBackUptoRow.holds Try.pinned (OpenSpec.upto scalarBackSpec)

/-- 'tollhouselaw04.ScalarLaws', WHERE WHAT IT READS IS OF BULK AT MOST 1048576: true; the input reads as it did. -/
def scalarLawsUptoRow : OpenClaim := { program := "ytajjjdmjlloifaa", sum := "0560a0df39b02fceee54d03ac27d04d53e4f0e37246e5adfc7e58e685ba45304", func := "tollhouse/tollhouselaw04.ScalarLaws", spec := "scalarLaws", inPlace := ["math/bits.Sub64", "math/bits.Add64"], apart := false, narrowed := true }
def ScalarLawsUptoSaid : Prop := scalarLawsUptoRow.holds Try.pinned (OpenSpec.upto scalarLawsSpec)

end Rows
end Go.Proofs.Ytajjjdmjlloifaa
