/-
  NARROWER THAN 'FOR EVERY INPUT', by the rows' own cells (each row's printed sentence says how): ShaOf: laid · ShaPieces: laid · ShaClones: laid · ShaMac: laid · ShaTagged: laid · ShaLess: laid · MerkleRoots: laid · MerklePaths: laid · MerkleChecks: laid · MerkleBack: laid · MerkleFooled: laid · MerkleTwo: laid.
  DERIVED. THE GIVEN ROWS OF THIS SEAT. 12 by the template 'for every input the law returns true; each argument reads behind the call as it read before'; 0 by the template 'total and deterministic' (their statements: YtimnpakmifjgoaaDoorTotals.lean).
  GIVEN WITH THE SEED: the statements are not yours to turn. If you find one false, say at which input.
  Laid BY PROGRAM, IN A SANDBOX (cutbox-rows.mjs): the forced cells as the released guide's own fill.sh prints them over the translation 8964cf464906533f… (all of the seat's roots in one cut). By AI agents, Wed Nov 11 2026. No macro, syntax, notation, axiom, sorry.
-/
import Derived.Test.YtimnpakmifjgoaaDoorChecked
import GoSem.Claim
import GoSem.ClaimJoined
import GoSem.ClaimMapViews
import Derived.JoinedTies
import Derived.KernelRfl
namespace Go.Proofs.YtimnpakmifjgoaaDoor
/- THE CELL 'sum', in the pinned program and in every row, IS THE sha256 OF THE DUMP (.gsa) THAT YtimnpakmifjgoaaDoorProg.lean LOADS. Nothing in Lean hashes anything: it is a label: what it is worth is what the hold of that sum in a sandbox is worth. -/
noncomputable def Tryd.pinned : Pinned := { name := "ytimnpakmifjgoaadoor", sum := "8964cf464906533fbd7ba08abe805a1be58b5eabd799ee2c0c4a6705c1fdb616", checked := Tryd.checked }
namespace Rows
def none {H : Type} : Left H := { results := [], args := [] }

/- WHAT THE LISTED PACKAGE-LEVEL VARIABLES READ AS WHEN THE CALL BEGINS. Each datum BY PROGRAM (the guide's laid-datum.mjs) off the statement by which the dump's own 'gosem.cut.vars' lays the variable. In a bare row this is a premise. The card (YtimnpakmifjgoaaDoorCards.lean) ties it to the program's text. -/
def laid_tollhouse_tollhouseref01_table {H : Type} : DataW H := .agg [.lit (.int .u32 1116352408), .lit (.int .u32 1899447441), .lit (.int .u32 3049323471), .lit (.int .u32 3921009573), .lit (.int .u32 961987163), .lit (.int .u32 1508970993), .lit (.int .u32 2453635748), .lit (.int .u32 2870763221), .lit (.int .u32 3624381080), .lit (.int .u32 310598401), .lit (.int .u32 607225278), .lit (.int .u32 1426881987), .lit (.int .u32 1925078388), .lit (.int .u32 2162078206), .lit (.int .u32 2614888103), .lit (.int .u32 3248222580), .lit (.int .u32 3835390401), .lit (.int .u32 4022224774), .lit (.int .u32 264347078), .lit (.int .u32 604807628), .lit (.int .u32 770255983), .lit (.int .u32 1249150122), .lit (.int .u32 1555081692), .lit (.int .u32 1996064986), .lit (.int .u32 2554220882), .lit (.int .u32 2821834349), .lit (.int .u32 2952996808), .lit (.int .u32 3210313671), .lit (.int .u32 3336571891), .lit (.int .u32 3584528711), .lit (.int .u32 113926993), .lit (.int .u32 338241895), .lit (.int .u32 666307205), .lit (.int .u32 773529912), .lit (.int .u32 1294757372), .lit (.int .u32 1396182291), .lit (.int .u32 1695183700), .lit (.int .u32 1986661051), .lit (.int .u32 2177026350), .lit (.int .u32 2456956037), .lit (.int .u32 2730485921), .lit (.int .u32 2820302411), .lit (.int .u32 3259730800), .lit (.int .u32 3345764771), .lit (.int .u32 3516065817), .lit (.int .u32 3600352804), .lit (.int .u32 4094571909), .lit (.int .u32 275423344), .lit (.int .u32 430227734), .lit (.int .u32 506948616), .lit (.int .u32 659060556), .lit (.int .u32 883997877), .lit (.int .u32 958139571), .lit (.int .u32 1322822218), .lit (.int .u32 1537002063), .lit (.int .u32 1747873779), .lit (.int .u32 1955562222), .lit (.int .u32 2024104815), .lit (.int .u32 2227730452), .lit (.int .u32 2361852424), .lit (.int .u32 2428436474), .lit (.int .u32 2756734187), .lit (.int .u32 3204031479), .lit (.int .u32 3329325298)]
def laid_tollhouse_sha_cubeRoots {H : Type} : DataW H := .agg [.lit (.int .u32 1116352408), .lit (.int .u32 1899447441), .lit (.int .u32 3049323471), .lit (.int .u32 3921009573), .lit (.int .u32 961987163), .lit (.int .u32 1508970993), .lit (.int .u32 2453635748), .lit (.int .u32 2870763221), .lit (.int .u32 3624381080), .lit (.int .u32 310598401), .lit (.int .u32 607225278), .lit (.int .u32 1426881987), .lit (.int .u32 1925078388), .lit (.int .u32 2162078206), .lit (.int .u32 2614888103), .lit (.int .u32 3248222580), .lit (.int .u32 3835390401), .lit (.int .u32 4022224774), .lit (.int .u32 264347078), .lit (.int .u32 604807628), .lit (.int .u32 770255983), .lit (.int .u32 1249150122), .lit (.int .u32 1555081692), .lit (.int .u32 1996064986), .lit (.int .u32 2554220882), .lit (.int .u32 2821834349), .lit (.int .u32 2952996808), .lit (.int .u32 3210313671), .lit (.int .u32 3336571891), .lit (.int .u32 3584528711), .lit (.int .u32 113926993), .lit (.int .u32 338241895), .lit (.int .u32 666307205), .lit (.int .u32 773529912), .lit (.int .u32 1294757372), .lit (.int .u32 1396182291), .lit (.int .u32 1695183700), .lit (.int .u32 1986661051), .lit (.int .u32 2177026350), .lit (.int .u32 2456956037), .lit (.int .u32 2730485921), .lit (.int .u32 2820302411), .lit (.int .u32 3259730800), .lit (.int .u32 3345764771), .lit (.int .u32 3516065817), .lit (.int .u32 3600352804), .lit (.int .u32 4094571909), .lit (.int .u32 275423344), .lit (.int .u32 430227734), .lit (.int .u32 506948616), .lit (.int .u32 659060556), .lit (.int .u32 883997877), .lit (.int .u32 958139571), .lit (.int .u32 1322822218), .lit (.int .u32 1537002063), .lit (.int .u32 1747873779), .lit (.int .u32 1955562222), .lit (.int .u32 2024104815), .lit (.int .u32 2227730452), .lit (.int .u32 2361852424), .lit (.int .u32 2428436474), .lit (.int .u32 2756734187), .lit (.int .u32 3204031479), .lit (.int .u32 3329325298)]

/-- 'tollhouselaw01.ShaOf': WHATEVER THE INPUT: true; the input reads as it did. -/
def shaOfSpec : ChangeSpec := { name := "shaOf", fn := fun _ => fun
  | [d] => { results := [.lit (.bool true)], args := [d] }
  | _ => none }
def shaOfRow : OpenClaim := { program := "ytimnpakmifjgoaadoor", sum := "8964cf464906533fbd7ba08abe805a1be58b5eabd799ee2c0c4a6705c1fdb616", func := "tollhouse/tollhouselaw01.ShaOf", spec := "shaOf", named := ["tollhouse/sha.cubeRoots", "tollhouse/tollhouseref01.table"], apart := false, laid := [("tollhouse/tollhouseref01.table", laid_tollhouse_tollhouseref01_table), ("tollhouse/sha.cubeRoots", laid_tollhouse_sha_cubeRoots)] }
def ShaOfSaid : Prop := shaOfRow.holds Tryd.pinned (OpenSpec.ofChange shaOfSpec)

/-- ITS FALSE NEIGHBOUR: 'it returns false'. Refute it at one input. -/
def shaOfWrong : ChangeSpec := { name := "shaOf", fn := fun _ => fun
  | [d] => { results := [.lit (.bool false)], args := [d] }
  | _ => none }
def ShaOfWrongFalsely : Prop := shaOfRow.holds Tryd.pinned (OpenSpec.ofChange shaOfWrong)

/-- 'tollhouselaw01.ShaPieces': WHATEVER THE INPUT: true; the input reads as it did. -/
def shaPiecesSpec : ChangeSpec := { name := "shaPieces", fn := fun _ => fun
  | [d] => { results := [.lit (.bool true)], args := [d] }
  | _ => none }
def shaPiecesRow : OpenClaim := { program := "ytimnpakmifjgoaadoor", sum := "8964cf464906533fbd7ba08abe805a1be58b5eabd799ee2c0c4a6705c1fdb616", func := "tollhouse/tollhouselaw01.ShaPieces", spec := "shaPieces", named := ["tollhouse/sha.cubeRoots", "tollhouse/tollhouseref01.table"], apart := false, laid := [("tollhouse/tollhouseref01.table", laid_tollhouse_tollhouseref01_table), ("tollhouse/sha.cubeRoots", laid_tollhouse_sha_cubeRoots)] }
def ShaPiecesSaid : Prop := shaPiecesRow.holds Tryd.pinned (OpenSpec.ofChange shaPiecesSpec)

/-- ITS FALSE NEIGHBOUR: 'it returns false'. Refute it at one input. -/
def shaPiecesWrong : ChangeSpec := { name := "shaPieces", fn := fun _ => fun
  | [d] => { results := [.lit (.bool false)], args := [d] }
  | _ => none }
def ShaPiecesWrongFalsely : Prop := shaPiecesRow.holds Tryd.pinned (OpenSpec.ofChange shaPiecesWrong)

/-- 'tollhouselaw01.ShaClones': WHATEVER THE INPUT: true; the input reads as it did. -/
def shaClonesSpec : ChangeSpec := { name := "shaClones", fn := fun _ => fun
  | [d1, d2, d3] => { results := [.lit (.bool true)], args := [d1, d2, d3] }
  | _ => none }
def shaClonesRow : OpenClaim := { program := "ytimnpakmifjgoaadoor", sum := "8964cf464906533fbd7ba08abe805a1be58b5eabd799ee2c0c4a6705c1fdb616", func := "tollhouse/tollhouselaw01.ShaClones", spec := "shaClones", named := ["tollhouse/sha.cubeRoots", "tollhouse/tollhouseref01.table"], apart := false, laid := [("tollhouse/tollhouseref01.table", laid_tollhouse_tollhouseref01_table), ("tollhouse/sha.cubeRoots", laid_tollhouse_sha_cubeRoots)] }
def ShaClonesSaid : Prop := shaClonesRow.holds Tryd.pinned (OpenSpec.ofChange shaClonesSpec)

/-- ITS FALSE NEIGHBOUR: 'it returns false'. Refute it at one input. -/
def shaClonesWrong : ChangeSpec := { name := "shaClones", fn := fun _ => fun
  | [d1, d2, d3] => { results := [.lit (.bool false)], args := [d1, d2, d3] }
  | _ => none }
def ShaClonesWrongFalsely : Prop := shaClonesRow.holds Tryd.pinned (OpenSpec.ofChange shaClonesWrong)

/-- 'tollhouselaw01.ShaMac': WHATEVER THE INPUT: true; the input reads as it did. -/
def shaMacSpec : ChangeSpec := { name := "shaMac", fn := fun _ => fun
  | [d1, d2] => { results := [.lit (.bool true)], args := [d1, d2] }
  | _ => none }
def shaMacRow : OpenClaim := { program := "ytimnpakmifjgoaadoor", sum := "8964cf464906533fbd7ba08abe805a1be58b5eabd799ee2c0c4a6705c1fdb616", func := "tollhouse/tollhouselaw01.ShaMac", spec := "shaMac", named := ["tollhouse/sha.cubeRoots", "tollhouse/tollhouseref01.table"], apart := false, laid := [("tollhouse/tollhouseref01.table", laid_tollhouse_tollhouseref01_table), ("tollhouse/sha.cubeRoots", laid_tollhouse_sha_cubeRoots)] }
def ShaMacSaid : Prop := shaMacRow.holds Tryd.pinned (OpenSpec.ofChange shaMacSpec)

/-- ITS FALSE NEIGHBOUR: 'it returns false'. Refute it at one input. -/
def shaMacWrong : ChangeSpec := { name := "shaMac", fn := fun _ => fun
  | [d1, d2] => { results := [.lit (.bool false)], args := [d1, d2] }
  | _ => none }
def ShaMacWrongFalsely : Prop := shaMacRow.holds Tryd.pinned (OpenSpec.ofChange shaMacWrong)

/-- 'tollhouselaw01.ShaTagged': WHATEVER THE INPUT: true; the input reads as it did. -/
def shaTaggedSpec : ChangeSpec := { name := "shaTagged", fn := fun _ => fun
  | [d1, d2] => { results := [.lit (.bool true)], args := [d1, d2] }
  | _ => none }
def shaTaggedRow : OpenClaim := { program := "ytimnpakmifjgoaadoor", sum := "8964cf464906533fbd7ba08abe805a1be58b5eabd799ee2c0c4a6705c1fdb616", func := "tollhouse/tollhouselaw01.ShaTagged", spec := "shaTagged", named := ["tollhouse/sha.cubeRoots", "tollhouse/tollhouseref01.table"], apart := false, laid := [("tollhouse/tollhouseref01.table", laid_tollhouse_tollhouseref01_table), ("tollhouse/sha.cubeRoots", laid_tollhouse_sha_cubeRoots)] }
def ShaTaggedSaid : Prop := shaTaggedRow.holds Tryd.pinned (OpenSpec.ofChange shaTaggedSpec)

/-- ITS FALSE NEIGHBOUR: 'it returns false'. Refute it at one input. -/
def shaTaggedWrong : ChangeSpec := { name := "shaTagged", fn := fun _ => fun
  | [d1, d2] => { results := [.lit (.bool false)], args := [d1, d2] }
  | _ => none }
def ShaTaggedWrongFalsely : Prop := shaTaggedRow.holds Tryd.pinned (OpenSpec.ofChange shaTaggedWrong)

/-- 'tollhouselaw01.ShaLess': WHATEVER THE INPUT: true; the input reads as it did. -/
def shaLessSpec : ChangeSpec := { name := "shaLess", fn := fun _ => fun
  | [d1, d2, d3] => { results := [.lit (.bool true)], args := [d1, d2, d3] }
  | _ => none }
def shaLessRow : OpenClaim := { program := "ytimnpakmifjgoaadoor", sum := "8964cf464906533fbd7ba08abe805a1be58b5eabd799ee2c0c4a6705c1fdb616", func := "tollhouse/tollhouselaw01.ShaLess", spec := "shaLess", inPlace := ["internal/bytealg.Compare"], named := ["tollhouse/sha.cubeRoots"], apart := false, laid := [("tollhouse/sha.cubeRoots", laid_tollhouse_sha_cubeRoots)] }
def ShaLessSaid : Prop := shaLessRow.holds Tryd.pinned (OpenSpec.ofChange shaLessSpec)

/-- ITS FALSE NEIGHBOUR: 'it returns false'. Refute it at one input. -/
def shaLessWrong : ChangeSpec := { name := "shaLess", fn := fun _ => fun
  | [d1, d2, d3] => { results := [.lit (.bool false)], args := [d1, d2, d3] }
  | _ => none }
def ShaLessWrongFalsely : Prop := shaLessRow.holds Tryd.pinned (OpenSpec.ofChange shaLessWrong)

/-- 'tollhouselaw02.MerkleRoots': WHATEVER THE INPUT: true; the input reads as it did. -/
def merkleRootsSpec : ChangeSpec := { name := "merkleRoots", fn := fun _ => fun
  | [d1, d2] => { results := [.lit (.bool true)], args := [d1, d2] }
  | _ => none }
def merkleRootsRow : OpenClaim := { program := "ytimnpakmifjgoaadoor", sum := "8964cf464906533fbd7ba08abe805a1be58b5eabd799ee2c0c4a6705c1fdb616", func := "tollhouse/tollhouselaw02.MerkleRoots", spec := "merkleRoots", recurses := true, named := ["tollhouse/sha.cubeRoots", "tollhouse/tollhouseref01.table"], apart := false, laid := [("tollhouse/tollhouseref01.table", laid_tollhouse_tollhouseref01_table), ("tollhouse/sha.cubeRoots", laid_tollhouse_sha_cubeRoots)] }
def MerkleRootsSaid : Prop := merkleRootsRow.holds Tryd.pinned (OpenSpec.ofChange merkleRootsSpec)

/-- ITS FALSE NEIGHBOUR: 'it returns false'. Refute it at one input. -/
def merkleRootsWrong : ChangeSpec := { name := "merkleRoots", fn := fun _ => fun
  | [d1, d2] => { results := [.lit (.bool false)], args := [d1, d2] }
  | _ => none }
def MerkleRootsWrongFalsely : Prop := merkleRootsRow.holds Tryd.pinned (OpenSpec.ofChange merkleRootsWrong)

/-- 'tollhouselaw02.MerklePaths': WHATEVER THE INPUT: true; the input reads as it did. -/
def merklePathsSpec : ChangeSpec := { name := "merklePaths", fn := fun _ => fun
  | [d1, d2] => { results := [.lit (.bool true)], args := [d1, d2] }
  | _ => none }
def merklePathsRow : OpenClaim := { program := "ytimnpakmifjgoaadoor", sum := "8964cf464906533fbd7ba08abe805a1be58b5eabd799ee2c0c4a6705c1fdb616", func := "tollhouse/tollhouselaw02.MerklePaths", spec := "merklePaths", recurses := true, named := ["tollhouse/sha.cubeRoots", "tollhouse/tollhouseref01.table"], apart := false, laid := [("tollhouse/tollhouseref01.table", laid_tollhouse_tollhouseref01_table), ("tollhouse/sha.cubeRoots", laid_tollhouse_sha_cubeRoots)] }
def MerklePathsSaid : Prop := merklePathsRow.holds Tryd.pinned (OpenSpec.ofChange merklePathsSpec)

/-- ITS FALSE NEIGHBOUR: 'it returns false'. Refute it at one input. -/
def merklePathsWrong : ChangeSpec := { name := "merklePaths", fn := fun _ => fun
  | [d1, d2] => { results := [.lit (.bool false)], args := [d1, d2] }
  | _ => none }
def MerklePathsWrongFalsely : Prop := merklePathsRow.holds Tryd.pinned (OpenSpec.ofChange merklePathsWrong)

/-- 'tollhouselaw02.MerkleChecks': WHATEVER THE INPUT: true; the input reads as it did. -/
def merkleChecksSpec : ChangeSpec := { name := "merkleChecks", fn := fun _ => fun
  | [d1, d2, d3] => { results := [.lit (.bool true)], args := [d1, d2, d3] }
  | _ => none }
def merkleChecksRow : OpenClaim := { program := "ytimnpakmifjgoaadoor", sum := "8964cf464906533fbd7ba08abe805a1be58b5eabd799ee2c0c4a6705c1fdb616", func := "tollhouse/tollhouselaw02.MerkleChecks", spec := "merkleChecks", recurses := true, named := ["tollhouse/sha.cubeRoots", "tollhouse/tollhouseref01.table"], apart := false, laid := [("tollhouse/tollhouseref01.table", laid_tollhouse_tollhouseref01_table), ("tollhouse/sha.cubeRoots", laid_tollhouse_sha_cubeRoots)] }
def MerkleChecksSaid : Prop := merkleChecksRow.holds Tryd.pinned (OpenSpec.ofChange merkleChecksSpec)

/-- ITS FALSE NEIGHBOUR: 'it returns false'. Refute it at one input. -/
def merkleChecksWrong : ChangeSpec := { name := "merkleChecks", fn := fun _ => fun
  | [d1, d2, d3] => { results := [.lit (.bool false)], args := [d1, d2, d3] }
  | _ => none }
def MerkleChecksWrongFalsely : Prop := merkleChecksRow.holds Tryd.pinned (OpenSpec.ofChange merkleChecksWrong)

/-- 'tollhouselaw02.MerkleBack': WHATEVER THE INPUT: true; the input reads as it did. -/
def merkleBackSpec : ChangeSpec := { name := "merkleBack", fn := fun _ => fun
  | [d1, d2, d3] => { results := [.lit (.bool true)], args := [d1, d2, d3] }
  | _ => none }
def merkleBackRow : OpenClaim := { program := "ytimnpakmifjgoaadoor", sum := "8964cf464906533fbd7ba08abe805a1be58b5eabd799ee2c0c4a6705c1fdb616", func := "tollhouse/tollhouselaw02.MerkleBack", spec := "merkleBack", unfollowed := true, recurses := true, named := ["tollhouse/sha.cubeRoots", "tollhouse/tollhouseref01.table"], apart := false, laid := [("tollhouse/tollhouseref01.table", laid_tollhouse_tollhouseref01_table), ("tollhouse/sha.cubeRoots", laid_tollhouse_sha_cubeRoots)] }
def MerkleBackSaid : Prop := merkleBackRow.holds Tryd.pinned (OpenSpec.ofChange merkleBackSpec)

/-- ITS FALSE NEIGHBOUR: 'it returns false'. Refute it at one input. -/
def merkleBackWrong : ChangeSpec := { name := "merkleBack", fn := fun _ => fun
  | [d1, d2, d3] => { results := [.lit (.bool false)], args := [d1, d2, d3] }
  | _ => none }
def MerkleBackWrongFalsely : Prop := merkleBackRow.holds Tryd.pinned (OpenSpec.ofChange merkleBackWrong)

/-- 'tollhouselaw02.MerkleFooled': WHATEVER THE INPUT: true; the input reads as it did. -/
def merkleFooledSpec : ChangeSpec := { name := "merkleFooled", fn := fun _ => fun
  | [d1, d2, d3] => { results := [.lit (.bool true)], args := [d1, d2, d3] }
  | _ => none }
def merkleFooledRow : OpenClaim := { program := "ytimnpakmifjgoaadoor", sum := "8964cf464906533fbd7ba08abe805a1be58b5eabd799ee2c0c4a6705c1fdb616", func := "tollhouse/tollhouselaw02.MerkleFooled", spec := "merkleFooled", unfollowed := true, recurses := true, named := ["tollhouse/sha.cubeRoots", "tollhouse/tollhouseref01.table"], apart := false, laid := [("tollhouse/tollhouseref01.table", laid_tollhouse_tollhouseref01_table), ("tollhouse/sha.cubeRoots", laid_tollhouse_sha_cubeRoots)] }
def MerkleFooledSaid : Prop := merkleFooledRow.holds Tryd.pinned (OpenSpec.ofChange merkleFooledSpec)

/-- ITS FALSE NEIGHBOUR: 'it returns false'. Refute it at one input. -/
def merkleFooledWrong : ChangeSpec := { name := "merkleFooled", fn := fun _ => fun
  | [d1, d2, d3] => { results := [.lit (.bool false)], args := [d1, d2, d3] }
  | _ => none }
def MerkleFooledWrongFalsely : Prop := merkleFooledRow.holds Tryd.pinned (OpenSpec.ofChange merkleFooledWrong)

/-- 'tollhouselaw02.MerkleTwo': WHATEVER THE INPUT: true; the input reads as it did. -/
def merkleTwoSpec : ChangeSpec := { name := "merkleTwo", fn := fun _ => fun
  | [d1, d2] => { results := [.lit (.bool true)], args := [d1, d2] }
  | _ => none }
def merkleTwoRow : OpenClaim := { program := "ytimnpakmifjgoaadoor", sum := "8964cf464906533fbd7ba08abe805a1be58b5eabd799ee2c0c4a6705c1fdb616", func := "tollhouse/tollhouselaw02.MerkleTwo", spec := "merkleTwo", recurses := true, named := ["tollhouse/sha.cubeRoots", "tollhouse/tollhouseref01.table"], apart := false, laid := [("tollhouse/tollhouseref01.table", laid_tollhouse_tollhouseref01_table), ("tollhouse/sha.cubeRoots", laid_tollhouse_sha_cubeRoots)] }
def MerkleTwoSaid : Prop := merkleTwoRow.holds Tryd.pinned (OpenSpec.ofChange merkleTwoSpec)

/-- ITS FALSE NEIGHBOUR: 'it returns false'. Refute it at one input. -/
def merkleTwoWrong : ChangeSpec := { name := "merkleTwo", fn := fun _ => fun
  | [d1, d2] => { results := [.lit (.bool false)], args := [d1, d2] }
  | _ => none }
def MerkleTwoWrongFalsely : Prop := merkleTwoRow.holds Tryd.pinned (OpenSpec.ofChange merkleTwoWrong)

/- THE SECOND FORM. 'bulk': how many values and letters a reading holds, each counted each time it is reached (what is shared counts as often as it is met; a slice's spare places count too). A statement '..UptoSaid' is the law's where the arguments, and the package variables that the reading takes, are together of bulk at most 1048576: NARROWER than '..Said'. Prove '..Said' where nothing that the law and all that it calls make is longer than what came in: it says more and counts as full. Else prove '..UptoSaid'. A law counts once. -/
mutual
def uptoBulk {H : Type} : DataW H → Nat
  | .lit (.string bytes) => bytes.length + 1
  | .lit _ => 1
  | .nil => 1
  | .ptr d => uptoBulk d + 1
  | .slice elems spare => uptoBulkAll elems + uptoBulkAll spare + 1
  | .agg parts => uptoBulkAll parts + 1
  | .iface _ d => uptoBulk d + 1
  | .map entries => uptoBulkEntries entries + 1
  | .held _ => 1
def uptoBulkAll {H : Type} : List (DataW H) → Nat
  | [] => 0
  | d :: r => uptoBulk d + uptoBulkAll r
def uptoBulkEntries {H : Type} : List (Lit × DataW H) → Nat
  | [] => 0
  | x :: r => uptoBulkEntry x + uptoBulkEntries r
def uptoBulkEntry {H : Type} : Lit × DataW H → Nat
  | (.string bytes, d) => bytes.length + uptoBulk d + 1
  | (_, d) => uptoBulk d + 1
 end
def uptoSmall : (H : Type) → List (DataW H) → Bool := fun _ ds => decide (uptoBulkAll ds ≤ 1048576)
def OpenSpec.upto (s : _root_.Go.ChangeSpec) : _root_.Go.OpenSpec := { _root_.Go.OpenSpec.ofChange s with cond := some uptoSmall }

/-- 'tollhouselaw01.ShaOf', WHERE WHAT IT READS IS OF BULK AT MOST 1048576: true; the input reads as it did. -/
def shaOfUptoRow : OpenClaim := { program := "ytimnpakmifjgoaadoor", sum := "8964cf464906533fbd7ba08abe805a1be58b5eabd799ee2c0c4a6705c1fdb616", func := "tollhouse/tollhouselaw01.ShaOf", spec := "shaOf", named := ["tollhouse/sha.cubeRoots", "tollhouse/tollhouseref01.table"], apart := false, laid := [("tollhouse/tollhouseref01.table", laid_tollhouse_tollhouseref01_table), ("tollhouse/sha.cubeRoots", laid_tollhouse_sha_cubeRoots)], narrowed := true }
def ShaOfUptoSaid : Prop := shaOfUptoRow.holds Tryd.pinned (OpenSpec.upto shaOfSpec)

/-- 'tollhouselaw01.ShaPieces', WHERE WHAT IT READS IS OF BULK AT MOST 1048576: true; the input reads as it did. -/
def shaPiecesUptoRow : OpenClaim := { program := "ytimnpakmifjgoaadoor", sum := "8964cf464906533fbd7ba08abe805a1be58b5eabd799ee2c0c4a6705c1fdb616", func := "tollhouse/tollhouselaw01.ShaPieces", spec := "shaPieces", named := ["tollhouse/sha.cubeRoots", "tollhouse/tollhouseref01.table"], apart := false, laid := [("tollhouse/tollhouseref01.table", laid_tollhouse_tollhouseref01_table), ("tollhouse/sha.cubeRoots", laid_tollhouse_sha_cubeRoots)], narrowed := true }
def ShaPiecesUptoSaid : Prop := shaPiecesUptoRow.holds Tryd.pinned (OpenSpec.upto shaPiecesSpec)

/-- 'tollhouselaw01.ShaClones', WHERE WHAT IT READS IS OF BULK AT MOST 1048576: true; the input reads as it did. -/
def shaClonesUptoRow : OpenClaim := { program := "ytimnpakmifjgoaadoor", sum := "8964cf464906533fbd7ba08abe805a1be58b5eabd799ee2c0c4a6705c1fdb616", func := "tollhouse/tollhouselaw01.ShaClones", spec := "shaClones", named := ["tollhouse/sha.cubeRoots", "tollhouse/tollhouseref01.table"], apart := false, laid := [("tollhouse/tollhouseref01.table", laid_tollhouse_tollhouseref01_table), ("tollhouse/sha.cubeRoots", laid_tollhouse_sha_cubeRoots)], narrowed := true }
def ShaClonesUptoSaid : Prop := shaClonesUptoRow.holds Tryd.pinned (OpenSpec.upto shaClonesSpec)

/-- 'tollhouselaw01.ShaMac', WHERE WHAT IT READS IS OF BULK AT MOST 1048576: true; the input reads as it did. -/
def shaMacUptoRow : OpenClaim := { program := "ytimnpakmifjgoaadoor", sum := "8964cf464906533fbd7ba08abe805a1be58b5eabd799ee2c0c4a6705c1fdb616", func := "tollhouse/tollhouselaw01.ShaMac", spec := "shaMac", named := ["tollhouse/sha.cubeRoots", "tollhouse/tollhouseref01.table"], apart := false, laid := [("tollhouse/tollhouseref01.table", laid_tollhouse_tollhouseref01_table), ("tollhouse/sha.cubeRoots", laid_tollhouse_sha_cubeRoots)], narrowed := true }
def ShaMacUptoSaid : Prop := shaMacUptoRow.holds Tryd.pinned (OpenSpec.upto shaMacSpec)

/-- 'tollhouselaw01.ShaTagged', WHERE WHAT IT READS IS OF BULK AT MOST 1048576: true; the input reads as it did. -/
def shaTaggedUptoRow : OpenClaim := { program := "ytimnpakmifjgoaadoor", sum := "8964cf464906533fbd7ba08abe805a1be58b5eabd799ee2c0c4a6705c1fdb616", func := "tollhouse/tollhouselaw01.ShaTagged", spec := "shaTagged", named := ["tollhouse/sha.cubeRoots", "tollhouse/tollhouseref01.table"], apart := false, laid := [("tollhouse/tollhouseref01.table", laid_tollhouse_tollhouseref01_table), ("tollhouse/sha.cubeRoots", laid_tollhouse_sha_cubeRoots)], narrowed := true }
def ShaTaggedUptoSaid : Prop := shaTaggedUptoRow.holds Tryd.pinned (OpenSpec.upto shaTaggedSpec)

/-- 'tollhouselaw01.ShaLess', WHERE WHAT IT READS IS OF BULK AT MOST 1048576: true; the input reads as it did. -/
def shaLessUptoRow : OpenClaim := { program := "ytimnpakmifjgoaadoor", sum := "8964cf464906533fbd7ba08abe805a1be58b5eabd799ee2c0c4a6705c1fdb616", func := "tollhouse/tollhouselaw01.ShaLess", spec := "shaLess", inPlace := ["internal/bytealg.Compare"], named := ["tollhouse/sha.cubeRoots"], apart := false, laid := [("tollhouse/sha.cubeRoots", laid_tollhouse_sha_cubeRoots)], narrowed := true }
def ShaLessUptoSaid : Prop := shaLessUptoRow.holds Tryd.pinned (OpenSpec.upto shaLessSpec)

/-- 'tollhouselaw02.MerkleRoots', WHERE WHAT IT READS IS OF BULK AT MOST 1048576: true; the input reads as it did. -/
def merkleRootsUptoRow : OpenClaim := { program := "ytimnpakmifjgoaadoor", sum := "8964cf464906533fbd7ba08abe805a1be58b5eabd799ee2c0c4a6705c1fdb616", func := "tollhouse/tollhouselaw02.MerkleRoots", spec := "merkleRoots", recurses := true, named := ["tollhouse/sha.cubeRoots", "tollhouse/tollhouseref01.table"], apart := false, laid := [("tollhouse/tollhouseref01.table", laid_tollhouse_tollhouseref01_table), ("tollhouse/sha.cubeRoots", laid_tollhouse_sha_cubeRoots)], narrowed := true }
def MerkleRootsUptoSaid : Prop := merkleRootsUptoRow.holds Tryd.pinned (OpenSpec.upto merkleRootsSpec)

/-- 'tollhouselaw02.MerklePaths', WHERE WHAT IT READS IS OF BULK AT MOST 1048576: true; the input reads as it did. -/
def merklePathsUptoRow : OpenClaim := { program := "ytimnpakmifjgoaadoor", sum := "8964cf464906533fbd7ba08abe805a1be58b5eabd799ee2c0c4a6705c1fdb616", func := "tollhouse/tollhouselaw02.MerklePaths", spec := "merklePaths", recurses := true, named := ["tollhouse/sha.cubeRoots", "tollhouse/tollhouseref01.table"], apart := false, laid := [("tollhouse/tollhouseref01.table", laid_tollhouse_tollhouseref01_table), ("tollhouse/sha.cubeRoots", laid_tollhouse_sha_cubeRoots)], narrowed := true }
def MerklePathsUptoSaid : Prop := merklePathsUptoRow.holds Tryd.pinned (OpenSpec.upto merklePathsSpec)

/-- 'tollhouselaw02.MerkleChecks', WHERE WHAT IT READS IS OF BULK AT MOST 1048576: true; the input reads as it did. -/
def merkleChecksUptoRow : OpenClaim := { program := "ytimnpakmifjgoaadoor", sum := "8964cf464906533fbd7ba08abe805a1be58b5eabd799ee2c0c4a6705c1fdb616", func := "tollhouse/tollhouselaw02.MerkleChecks", spec := "merkleChecks", recurses := true, named := ["tollhouse/sha.cubeRoots", "tollhouse/tollhouseref01.table"], apart := false, laid := [("tollhouse/tollhouseref01.table", laid_tollhouse_tollhouseref01_table), ("tollhouse/sha.cubeRoots", laid_tollhouse_sha_cubeRoots)], narrowed := true }
def MerkleChecksUptoSaid : Prop := merkleChecksUptoRow.holds Tryd.pinned (OpenSpec.upto merkleChecksSpec)

/-- 'tollhouselaw02.MerkleBack', WHERE WHAT IT READS IS OF BULK AT MOST 1048576: true; the input reads as it did. -/
def merkleBackUptoRow : OpenClaim := { program := "ytimnpakmifjgoaadoor", sum := "8964cf464906533fbd7ba08abe805a1be58b5eabd799ee2c0c4a6705c1fdb616", func := "tollhouse/tollhouselaw02.MerkleBack", spec := "merkleBack", unfollowed := true, recurses := true, named := ["tollhouse/sha.cubeRoots", "tollhouse/tollhouseref01.table"], apart := false, laid := [("tollhouse/tollhouseref01.table", laid_tollhouse_tollhouseref01_table), ("tollhouse/sha.cubeRoots", laid_tollhouse_sha_cubeRoots)], narrowed := true }
def MerkleBackUptoSaid : Prop := merkleBackUptoRow.holds Tryd.pinned (OpenSpec.upto merkleBackSpec)

/-- 'tollhouselaw02.MerkleFooled', WHERE WHAT IT READS IS OF BULK AT MOST 1048576: true; the input reads as it did. -/
def merkleFooledUptoRow : OpenClaim := { program := "ytimnpakmifjgoaadoor", sum := "8964cf464906533fbd7ba08abe805a1be58b5eabd799ee2c0c4a6705c1fdb616", func := "tollhouse/tollhouselaw02.MerkleFooled", spec := "merkleFooled", unfollowed := true, recurses := true, named := ["tollhouse/sha.cubeRoots", "tollhouse/tollhouseref01.table"], apart := false, laid := [("tollhouse/tollhouseref01.table", laid_tollhouse_tollhouseref01_table), ("tollhouse/sha.cubeRoots", laid_tollhouse_sha_cubeRoots)], narrowed := true }
def MerkleFooledUptoSaid : Prop := merkleFooledUptoRow.holds Tryd.pinned (OpenSpec.upto merkleFooledSpec)

/-- 'tollhouselaw02.MerkleTwo', WHERE WHAT IT READS IS OF BULK AT MOST 1048576: true; the input reads as it did. -/
def merkleTwoUptoRow : OpenClaim := { program := "ytimnpakmifjgoaadoor", sum := "8964cf464906533fbd7ba08abe805a1be58b5eabd799ee2c0c4a6705c1fdb616", func := "tollhouse/tollhouselaw02.MerkleTwo", spec := "merkleTwo", recurses := true, named := ["tollhouse/sha.cubeRoots", "tollhouse/tollhouseref01.table"], apart := false, laid := [("tollhouse/tollhouseref01.table", laid_tollhouse_tollhouseref01_table), ("tollhouse/sha.cubeRoots", laid_tollhouse_sha_cubeRoots)], narrowed := true }
def MerkleTwoUptoSaid : Prop := merkleTwoUptoRow.holds Tryd.pinned (OpenSpec.upto merkleTwoSpec)

end Rows
end Go.Proofs.YtimnpakmifjgoaaDoor
