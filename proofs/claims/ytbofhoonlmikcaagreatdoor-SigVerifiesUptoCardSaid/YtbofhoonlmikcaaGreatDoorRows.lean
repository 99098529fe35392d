/-
  NARROWER THAN 'FOR EVERY INPUT', by the rows' own cells (each row's printed sentence says how): SigSigns: laid · SigVerifies: laid · SigEnough: laid · SigMany: laid · CommitPoints: laid · CommitTags: laid · CommitOpens: laid · CommitHides: laid · CommitSums: laid.
  DERIVED. THE GIVEN ROWS OF THIS SEAT. 9 by the template 'for every input the law returns true; each argument reads behind the call as it read before'; 0 by the template 'total and deterministic' (their statements: YtbofhoonlmikcaaGreatDoorTotals.lean).
  GIVEN WITH THE SEED: the statements are not yours to turn. If you find one false, say at which input.
  Laid BY PROGRAM, IN A SANDBOX (cutbox-rows.mjs): the forced cells as the released guide's own fill.sh prints them over the translation 26d933a7cab13f13… (all of the seat's roots in one cut). By AI agents, Wed Nov 11 2026. No macro, syntax, notation, axiom, sorry.
-/
import Derived.Test.YtbofhoonlmikcaaGreatDoorChecked
import GoSem.Claim
import GoSem.ClaimJoined
import GoSem.ClaimMapViews
import Derived.JoinedTies
import Derived.KernelRfl
namespace Go.Proofs.YtbofhoonlmikcaaGreatDoor
/- THE CELL 'sum', in the pinned program and in every row, IS THE sha256 OF THE DUMP (.gsa) THAT YtbofhoonlmikcaaGreatDoorProg.lean LOADS. Nothing in Lean hashes anything: it is a label: what it is worth is what the hold of that sum in a sandbox is worth. -/
noncomputable def Tryz.pinned : Pinned := { name := "ytbofhoonlmikcaagreatdoor", sum := "26d933a7cab13f132d412f3d4289136e7d66606ea22eb4870246cd81da1a4293", checked := Tryz.checked }
namespace Rows
def none {H : Type} : Left H := { results := [], args := [] }

/- WHAT THE LISTED PACKAGE-LEVEL VARIABLES READ AS WHEN THE CALL BEGINS. Each datum BY PROGRAM (the guide's laid-datum.mjs) off the statement by which the dump's own 'gosem.cut.vars' lays the variable. In a bare row this is a premise. The card (YtbofhoonlmikcaaGreatDoorCards.lean) ties it to the program's text. -/
def laid_tollhouse_tollhouseref01_table {H : Type} : DataW H := .agg [.lit (.int .u32 1116352408), .lit (.int .u32 1899447441), .lit (.int .u32 3049323471), .lit (.int .u32 3921009573), .lit (.int .u32 961987163), .lit (.int .u32 1508970993), .lit (.int .u32 2453635748), .lit (.int .u32 2870763221), .lit (.int .u32 3624381080), .lit (.int .u32 310598401), .lit (.int .u32 607225278), .lit (.int .u32 1426881987), .lit (.int .u32 1925078388), .lit (.int .u32 2162078206), .lit (.int .u32 2614888103), .lit (.int .u32 3248222580), .lit (.int .u32 3835390401), .lit (.int .u32 4022224774), .lit (.int .u32 264347078), .lit (.int .u32 604807628), .lit (.int .u32 770255983), .lit (.int .u32 1249150122), .lit (.int .u32 1555081692), .lit (.int .u32 1996064986), .lit (.int .u32 2554220882), .lit (.int .u32 2821834349), .lit (.int .u32 2952996808), .lit (.int .u32 3210313671), .lit (.int .u32 3336571891), .lit (.int .u32 3584528711), .lit (.int .u32 113926993), .lit (.int .u32 338241895), .lit (.int .u32 666307205), .lit (.int .u32 773529912), .lit (.int .u32 1294757372), .lit (.int .u32 1396182291), .lit (.int .u32 1695183700), .lit (.int .u32 1986661051), .lit (.int .u32 2177026350), .lit (.int .u32 2456956037), .lit (.int .u32 2730485921), .lit (.int .u32 2820302411), .lit (.int .u32 3259730800), .lit (.int .u32 3345764771), .lit (.int .u32 3516065817), .lit (.int .u32 3600352804), .lit (.int .u32 4094571909), .lit (.int .u32 275423344), .lit (.int .u32 430227734), .lit (.int .u32 506948616), .lit (.int .u32 659060556), .lit (.int .u32 883997877), .lit (.int .u32 958139571), .lit (.int .u32 1322822218), .lit (.int .u32 1537002063), .lit (.int .u32 1747873779), .lit (.int .u32 1955562222), .lit (.int .u32 2024104815), .lit (.int .u32 2227730452), .lit (.int .u32 2361852424), .lit (.int .u32 2428436474), .lit (.int .u32 2756734187), .lit (.int .u32 3204031479), .lit (.int .u32 3329325298)]
def laid_tollhouse_sha_cubeRoots {H : Type} : DataW H := .agg [.lit (.int .u32 1116352408), .lit (.int .u32 1899447441), .lit (.int .u32 3049323471), .lit (.int .u32 3921009573), .lit (.int .u32 961987163), .lit (.int .u32 1508970993), .lit (.int .u32 2453635748), .lit (.int .u32 2870763221), .lit (.int .u32 3624381080), .lit (.int .u32 310598401), .lit (.int .u32 607225278), .lit (.int .u32 1426881987), .lit (.int .u32 1925078388), .lit (.int .u32 2162078206), .lit (.int .u32 2614888103), .lit (.int .u32 3248222580), .lit (.int .u32 3835390401), .lit (.int .u32 4022224774), .lit (.int .u32 264347078), .lit (.int .u32 604807628), .lit (.int .u32 770255983), .lit (.int .u32 1249150122), .lit (.int .u32 1555081692), .lit (.int .u32 1996064986), .lit (.int .u32 2554220882), .lit (.int .u32 2821834349), .lit (.int .u32 2952996808), .lit (.int .u32 3210313671), .lit (.int .u32 3336571891), .lit (.int .u32 3584528711), .lit (.int .u32 113926993), .lit (.int .u32 338241895), .lit (.int .u32 666307205), .lit (.int .u32 773529912), .lit (.int .u32 1294757372), .lit (.int .u32 1396182291), .lit (.int .u32 1695183700), .lit (.int .u32 1986661051), .lit (.int .u32 2177026350), .lit (.int .u32 2456956037), .lit (.int .u32 2730485921), .lit (.int .u32 2820302411), .lit (.int .u32 3259730800), .lit (.int .u32 3345764771), .lit (.int .u32 3516065817), .lit (.int .u32 3600352804), .lit (.int .u32 4094571909), .lit (.int .u32 275423344), .lit (.int .u32 430227734), .lit (.int .u32 506948616), .lit (.int .u32 659060556), .lit (.int .u32 883997877), .lit (.int .u32 958139571), .lit (.int .u32 1322822218), .lit (.int .u32 1537002063), .lit (.int .u32 1747873779), .lit (.int .u32 1955562222), .lit (.int .u32 2024104815), .lit (.int .u32 2227730452), .lit (.int .u32 2361852424), .lit (.int .u32 2428436474), .lit (.int .u32 2756734187), .lit (.int .u32 3204031479), .lit (.int .u32 3329325298)]

/-- 'tollhouselaw06.SigSigns': WHATEVER THE INPUT: true; the input reads as it did. -/
def sigSignsSpec : ChangeSpec := { name := "sigSigns", fn := fun _ => fun
  | [d1, d2] => { results := [.lit (.bool true)], args := [d1, d2] }
  | _ => none }
def sigSignsRow : OpenClaim := { program := "ytbofhoonlmikcaagreatdoor", sum := "26d933a7cab13f132d412f3d4289136e7d66606ea22eb4870246cd81da1a4293", func := "tollhouse/tollhouselaw06.SigSigns", spec := "sigSigns", inPlace := ["math/bits.Sub64", "math/bits.Add64"], unfollowed := true, recurses := true, named := ["tollhouse/sha.cubeRoots", "tollhouse/tollhouseref01.table"], plainKeys := false, apart := false, laid := [("tollhouse/tollhouseref01.table", laid_tollhouse_tollhouseref01_table), ("tollhouse/sha.cubeRoots", laid_tollhouse_sha_cubeRoots)] }
def SigSignsSaid : Prop := sigSignsRow.holds Tryz.pinned (OpenSpec.ofChange sigSignsSpec)

/-- ITS FALSE NEIGHBOUR: 'it returns false'. Refute it at one input. -/
def sigSignsWrong : ChangeSpec := { name := "sigSigns", fn := fun _ => fun
  | [d1, d2] => { results := [.lit (.bool false)], args := [d1, d2] }
  | _ => none }
def SigSignsWrongFalsely : Prop := sigSignsRow.holds Tryz.pinned (OpenSpec.ofChange sigSignsWrong)

/-- 'tollhouselaw06.SigVerifies': WHATEVER THE INPUT: true; the input reads as it did. -/
def sigVerifiesSpec : ChangeSpec := { name := "sigVerifies", fn := fun _ => fun
  | [d1, d2, d3] => { results := [.lit (.bool true)], args := [d1, d2, d3] }
  | _ => none }
def sigVerifiesRow : OpenClaim := { program := "ytbofhoonlmikcaagreatdoor", sum := "26d933a7cab13f132d412f3d4289136e7d66606ea22eb4870246cd81da1a4293", func := "tollhouse/tollhouselaw06.SigVerifies", spec := "sigVerifies", inPlace := ["math/bits.Sub64", "math/bits.Add64"], unfollowed := true, recurses := true, named := ["tollhouse/sha.cubeRoots", "tollhouse/tollhouseref01.table"], plainKeys := false, apart := false, laid := [("tollhouse/tollhouseref01.table", laid_tollhouse_tollhouseref01_table), ("tollhouse/sha.cubeRoots", laid_tollhouse_sha_cubeRoots)] }
def SigVerifiesSaid : Prop := sigVerifiesRow.holds Tryz.pinned (OpenSpec.ofChange sigVerifiesSpec)

/-- ITS FALSE NEIGHBOUR: 'it returns false'. Refute it at one input. -/
def sigVerifiesWrong : ChangeSpec := { name := "sigVerifies", fn := fun _ => fun
  | [d1, d2, d3] => { results := [.lit (.bool false)], args := [d1, d2, d3] }
  | _ => none }
def SigVerifiesWrongFalsely : Prop := sigVerifiesRow.holds Tryz.pinned (OpenSpec.ofChange sigVerifiesWrong)

/-- 'tollhouselaw06.SigEnough': WHATEVER THE INPUT: true; the input reads as it did. -/
def sigEnoughSpec : ChangeSpec := { name := "sigEnough", fn := fun _ => fun
  | [d1, d2, d3] => { results := [.lit (.bool true)], args := [d1, d2, d3] }
  | _ => none }
def sigEnoughRow : OpenClaim := { program := "ytbofhoonlmikcaagreatdoor", sum := "26d933a7cab13f132d412f3d4289136e7d66606ea22eb4870246cd81da1a4293", func := "tollhouse/tollhouselaw06.SigEnough", spec := "sigEnough", inPlace := ["math/bits.Sub64", "math/bits.Add64"], unfollowed := true, recurses := true, named := ["tollhouse/sha.cubeRoots", "tollhouse/tollhouseref01.table"], plainKeys := false, apart := false, laid := [("tollhouse/tollhouseref01.table", laid_tollhouse_tollhouseref01_table), ("tollhouse/sha.cubeRoots", laid_tollhouse_sha_cubeRoots)] }
def SigEnoughSaid : Prop := sigEnoughRow.holds Tryz.pinned (OpenSpec.ofChange sigEnoughSpec)

/-- ITS FALSE NEIGHBOUR: 'it returns false'. Refute it at one input. -/
def sigEnoughWrong : ChangeSpec := { name := "sigEnough", fn := fun _ => fun
  | [d1, d2, d3] => { results := [.lit (.bool false)], args := [d1, d2, d3] }
  | _ => none }
def SigEnoughWrongFalsely : Prop := sigEnoughRow.holds Tryz.pinned (OpenSpec.ofChange sigEnoughWrong)

/-- 'tollhouselaw06.SigMany': WHATEVER THE INPUT: true; the input reads as it did. -/
def sigManySpec : ChangeSpec := { name := "sigMany", fn := fun _ => fun
  | [d1, d2, d3] => { results := [.lit (.bool true)], args := [d1, d2, d3] }
  | _ => none }
def sigManyRow : OpenClaim := { program := "ytbofhoonlmikcaagreatdoor", sum := "26d933a7cab13f132d412f3d4289136e7d66606ea22eb4870246cd81da1a4293", func := "tollhouse/tollhouselaw06.SigMany", spec := "sigMany", inPlace := ["math/bits.Sub64", "math/bits.Add64"], unfollowed := true, recurses := true, named := ["tollhouse/sha.cubeRoots", "tollhouse/tollhouseref01.table"], plainKeys := false, apart := false, laid := [("tollhouse/tollhouseref01.table", laid_tollhouse_tollhouseref01_table), ("tollhouse/sha.cubeRoots", laid_tollhouse_sha_cubeRoots)] }
def SigManySaid : Prop := sigManyRow.holds Tryz.pinned (OpenSpec.ofChange sigManySpec)

/-- ITS FALSE NEIGHBOUR: 'it returns false'. Refute it at one input. -/
def sigManyWrong : ChangeSpec := { name := "sigMany", fn := fun _ => fun
  | [d1, d2, d3] => { results := [.lit (.bool false)], args := [d1, d2, d3] }
  | _ => none }
def SigManyWrongFalsely : Prop := sigManyRow.holds Tryz.pinned (OpenSpec.ofChange sigManyWrong)

/-- 'tollhouselaw07.CommitPoints': WHATEVER THE INPUT: true; the input reads as it did. -/
def commitPointsSpec : ChangeSpec := { name := "commitPoints", fn := fun _ => fun
  | [d1, d2] => { results := [.lit (.bool true)], args := [d1, d2] }
  | _ => none }
def commitPointsRow : OpenClaim := { program := "ytbofhoonlmikcaagreatdoor", sum := "26d933a7cab13f132d412f3d4289136e7d66606ea22eb4870246cd81da1a4293", func := "tollhouse/tollhouselaw07.CommitPoints", spec := "commitPoints", inPlace := ["math/bits.Sub64", "math/bits.Add64"], unfollowed := true, recurses := true, named := ["tollhouse/sha.cubeRoots", "tollhouse/tollhouseref01.table"], plainKeys := false, apart := false, laid := [("tollhouse/tollhouseref01.table", laid_tollhouse_tollhouseref01_table), ("tollhouse/sha.cubeRoots", laid_tollhouse_sha_cubeRoots)] }
def CommitPointsSaid : Prop := commitPointsRow.holds Tryz.pinned (OpenSpec.ofChange commitPointsSpec)

/-- ITS FALSE NEIGHBOUR: 'it returns false'. Refute it at one input. -/
def commitPointsWrong : ChangeSpec := { name := "commitPoints", fn := fun _ => fun
  | [d1, d2] => { results := [.lit (.bool false)], args := [d1, d2] }
  | _ => none }
def CommitPointsWrongFalsely : Prop := commitPointsRow.holds Tryz.pinned (OpenSpec.ofChange commitPointsWrong)

/-- 'tollhouselaw07.CommitTags': WHATEVER THE INPUT: true; the input reads as it did. -/
def commitTagsSpec : ChangeSpec := { name := "commitTags", fn := fun _ => fun
  | [d1, d2] => { results := [.lit (.bool true)], args := [d1, d2] }
  | _ => none }
def commitTagsRow : OpenClaim := { program := "ytbofhoonlmikcaagreatdoor", sum := "26d933a7cab13f132d412f3d4289136e7d66606ea22eb4870246cd81da1a4293", func := "tollhouse/tollhouselaw07.CommitTags", spec := "commitTags", inPlace := ["math/bits.Sub64", "math/bits.Add64"], unfollowed := true, recurses := true, named := ["tollhouse/sha.cubeRoots", "tollhouse/tollhouseref01.table"], plainKeys := false, apart := false, laid := [("tollhouse/tollhouseref01.table", laid_tollhouse_tollhouseref01_table), ("tollhouse/sha.cubeRoots", laid_tollhouse_sha_cubeRoots)] }
def CommitTagsSaid : Prop := commitTagsRow.holds Tryz.pinned (OpenSpec.ofChange commitTagsSpec)

/-- ITS FALSE NEIGHBOUR: 'it returns false'. Refute it at one input. -/
def commitTagsWrong : ChangeSpec := { name := "commitTags", fn := fun _ => fun
  | [d1, d2] => { results := [.lit (.bool false)], args := [d1, d2] }
  | _ => none }
def CommitTagsWrongFalsely : Prop := commitTagsRow.holds Tryz.pinned (OpenSpec.ofChange commitTagsWrong)

/-- 'tollhouselaw07.CommitOpens': WHATEVER THE INPUT: true; the input reads as it did. -/
def commitOpensSpec : ChangeSpec := { name := "commitOpens", fn := fun _ => fun
  | [d1, d2, d3] => { results := [.lit (.bool true)], args := [d1, d2, d3] }
  | _ => none }
def commitOpensRow : OpenClaim := { program := "ytbofhoonlmikcaagreatdoor", sum := "26d933a7cab13f132d412f3d4289136e7d66606ea22eb4870246cd81da1a4293", func := "tollhouse/tollhouselaw07.CommitOpens", spec := "commitOpens", inPlace := ["math/bits.Sub64", "math/bits.Add64"], unfollowed := true, recurses := true, named := ["tollhouse/sha.cubeRoots", "tollhouse/tollhouseref01.table"], plainKeys := false, apart := false, laid := [("tollhouse/tollhouseref01.table", laid_tollhouse_tollhouseref01_table), ("tollhouse/sha.cubeRoots", laid_tollhouse_sha_cubeRoots)] }
def CommitOpensSaid : Prop := commitOpensRow.holds Tryz.pinned (OpenSpec.ofChange commitOpensSpec)

/-- ITS FALSE NEIGHBOUR: 'it returns false'. Refute it at one input. -/
def commitOpensWrong : ChangeSpec := { name := "commitOpens", fn := fun _ => fun
  | [d1, d2, d3] => { results := [.lit (.bool false)], args := [d1, d2, d3] }
  | _ => none }
def CommitOpensWrongFalsely : Prop := commitOpensRow.holds Tryz.pinned (OpenSpec.ofChange commitOpensWrong)

/-- 'tollhouselaw07.CommitHides': WHATEVER THE INPUT: true; the input reads as it did. -/
def commitHidesSpec : ChangeSpec := { name := "commitHides", fn := fun _ => fun
  | [d1, d2, d3] => { results := [.lit (.bool true)], args := [d1, d2, d3] }
  | _ => none }
def commitHidesRow : OpenClaim := { program := "ytbofhoonlmikcaagreatdoor", sum := "26d933a7cab13f132d412f3d4289136e7d66606ea22eb4870246cd81da1a4293", func := "tollhouse/tollhouselaw07.CommitHides", spec := "commitHides", inPlace := ["math/bits.Add64", "math/bits.Sub64"], unfollowed := true, recurses := true, named := ["tollhouse/sha.cubeRoots", "tollhouse/tollhouseref01.table"], plainKeys := false, apart := false, laid := [("tollhouse/tollhouseref01.table", laid_tollhouse_tollhouseref01_table), ("tollhouse/sha.cubeRoots", laid_tollhouse_sha_cubeRoots)] }
def CommitHidesSaid : Prop := commitHidesRow.holds Tryz.pinned (OpenSpec.ofChange commitHidesSpec)

/-- ITS FALSE NEIGHBOUR: 'it returns false'. Refute it at one input. -/
def commitHidesWrong : ChangeSpec := { name := "commitHides", fn := fun _ => fun
  | [d1, d2, d3] => { results := [.lit (.bool false)], args := [d1, d2, d3] }
  | _ => none }
def CommitHidesWrongFalsely : Prop := commitHidesRow.holds Tryz.pinned (OpenSpec.ofChange commitHidesWrong)

/-- 'tollhouselaw07.CommitSums': WHATEVER THE INPUT: true; the input reads as it did. -/
def commitSumsSpec : ChangeSpec := { name := "commitSums", fn := fun _ => fun
  | [d1, d2, d3] => { results := [.lit (.bool true)], args := [d1, d2, d3] }
  | _ => none }
def commitSumsRow : OpenClaim := { program := "ytbofhoonlmikcaagreatdoor", sum := "26d933a7cab13f132d412f3d4289136e7d66606ea22eb4870246cd81da1a4293", func := "tollhouse/tollhouselaw07.CommitSums", spec := "commitSums", inPlace := ["math/bits.Sub64", "math/bits.Add64"], unfollowed := true, recurses := true, named := ["tollhouse/sha.cubeRoots"], plainKeys := false, apart := false, laid := [("tollhouse/sha.cubeRoots", laid_tollhouse_sha_cubeRoots)] }
def CommitSumsSaid : Prop := commitSumsRow.holds Tryz.pinned (OpenSpec.ofChange commitSumsSpec)

/-- ITS FALSE NEIGHBOUR: 'it returns false'. Refute it at one input. -/
def commitSumsWrong : ChangeSpec := { name := "commitSums", fn := fun _ => fun
  | [d1, d2, d3] => { results := [.lit (.bool false)], args := [d1, d2, d3] }
  | _ => none }
def CommitSumsWrongFalsely : Prop := commitSumsRow.holds Tryz.pinned (OpenSpec.ofChange commitSumsWrong)

/- THE SECOND FORM. 'bulk': how many values and letters a reading holds, each counted each time it is reached (what is shared counts as often as it is met; a slice's spare places count too). A statement '..UptoSaid' is the law's where the arguments, and the package variables that the reading takes, are together of bulk at most 1048576: NARROWER than '..Said'. Prove '..Said' where nothing that the law and all that it calls make is longer than what came in: it says more and counts as full. Else prove '..UptoSaid'. A law counts once. -/
mutual
def uptoBulk {H : Type} : DataW H → Nat
  | .lit (.string bytes) => bytes.length + 1
  | .lit _ => 1
  | .nil => 1
  | .ptr d => uptoBulk d + 1
  | .slice elems spare => uptoBulkAll elems + uptoBulkAll spare + 1
  | .agg parts => uptoBulkAll parts + 1
  | .iface _ d => uptoBulk d + 1
  | .map entries => uptoBulkEntries entries + 1
  | .held _ => 1
def uptoBulkAll {H : Type} : List (DataW H) → Nat
  | [] => 0
  | d :: r => uptoBulk d + uptoBulkAll r
def uptoBulkEntries {H : Type} : List (Lit × DataW H) → Nat
  | [] => 0
  | x :: r => uptoBulkEntry x + uptoBulkEntries r
def uptoBulkEntry {H : Type} : Lit × DataW H → Nat
  | (.string bytes, d) => bytes.length + uptoBulk d + 1
  | (_, d) => uptoBulk d + 1
 end
def uptoSmall : (H : Type) → List (DataW H) → Bool := fun _ ds => decide (uptoBulkAll ds ≤ 1048576)
def OpenSpec.upto (s : _root_.Go.ChangeSpec) : _root_.Go.OpenSpec := { _root_.Go.OpenSpec.ofChange s with cond := some uptoSmall }

/-- 'tollhouselaw06.SigSigns', WHERE WHAT IT READS IS OF BULK AT MOST 1048576: true; the input reads as it did. -/
def sigSignsUptoRow : OpenClaim := { program := "ytbofhoonlmikcaagreatdoor", sum := "26d933a7cab13f132d412f3d4289136e7d66606ea22eb4870246cd81da1a4293", func := "tollhouse/tollhouselaw06.SigSigns", spec := "sigSigns", inPlace := ["math/bits.Sub64", "math/bits.Add64"], unfollowed := true, recurses := true, named := ["tollhouse/sha.cubeRoots", "tollhouse/tollhouseref01.table"], plainKeys := false, apart := false, laid := [("tollhouse/tollhouseref01.table", laid_tollhouse_tollhouseref01_table), ("tollhouse/sha.cubeRoots", laid_tollhouse_sha_cubeRoots)], narrowed := true }
def SigSignsUptoSaid : Prop := sigSignsUptoRow.holds Tryz.pinned (OpenSpec.upto sigSignsSpec)

/-- 'tollhouselaw06.SigVerifies', WHERE WHAT IT READS IS OF BULK AT MOST 1048576: true; the input reads as it did. -/
def sigVerifiesUptoRow : OpenClaim := { program := "ytbofhoonlmikcaagreatdoor", sum := "26d933a7cab13f132d412f3d4289136e7d66606ea22eb4870246cd81da1a4293", func := "tollhouse/tollhouselaw06.SigVerifies", spec := "sigVerifies", inPlace := ["math/bits.Sub64", "math/bits.Add64"], unfollowed := true, recurses := true, named := ["tollhouse/sha.cubeRoots", "tollhouse/tollhouseref01.table"], plainKeys := false, apart := false, laid := [("tollhouse/tollhouseref01.table", laid_tollhouse_tollhouseref01_table), ("tollhouse/sha.cubeRoots", laid_tollhouse_sha_cubeRoots)], narrowed := true }
def SigVerifiesUptoSaid : Prop := sigVerifiesUptoRow.holds Tryz.pinned (OpenSpec.upto sigVerifiesSpec)

/-- 'tollhouselaw06.SigEnough', WHERE WHAT IT READS IS OF BULK AT MOST 1048576: true; the input reads as it did. -/
def sigEnoughUptoRow : OpenClaim := { program := "ytbofhoonlmikcaagreatdoor", sum := "26d933a7cab13f132d412f3d4289136e7d66606ea22eb4870246cd81da1a4293", func := "tollhouse/tollhouselaw06.SigEnough", spec := "sigEnough", inPlace := ["math/bits.Sub64", "math/bits.Add64"], unfollowed := true, recurses := true, named := ["tollhouse/sha.cubeRoots", "tollhouse/tollhouseref01.table"], plainKeys := false, apart := false, laid := [("tollhouse/tollhouseref01.table", laid_tollhouse_tollhouseref01_table), ("tollhouse/sha.cubeRoots", laid_tollhouse_sha_cubeRoots)], narrowed := true }
def SigEnoughUptoSaid : Prop := sigEnoughUptoRow.holds Tryz.pinned (OpenSpec.upto sigEnoughSpec)

/-- 'tollhouselaw06.SigMany', WHERE WHAT IT READS IS OF BULK AT MOST 1048576: true; the input reads as it did. -/
def sigManyUptoRow : OpenClaim := { program := "ytbofhoonlmikcaagreatdoor", sum := "26d933a7cab13f132d412f3d4289136e7d66606ea22eb4870246cd81da1a4293", func := "tollhouse/tollhouselaw06.SigMany", spec := "sigMany", inPlace := ["math/bits.Sub64", "math/bits.Add64"], unfollowed := true, recurses := true, named := ["tollhouse/sha.cubeRoots", "tollhouse/tollhouseref01.table"], plainKeys := false, apart := false, laid := [("tollhouse/tollhouseref01.table", laid_tollhouse_tollhouseref01_table), ("tollhouse/sha.cubeRoots", laid_tollhouse_sha_cubeRoots)], narrowed := true }
def SigManyUptoSaid : Prop := sigManyUptoRow.holds Tryz.pinned (OpenSpec.upto sigManySpec)

/-- 'tollhouselaw07.CommitPoints', WHERE WHAT IT READS IS OF BULK AT MOST 1048576: true; the input reads as it did. -/
def commitPointsUptoRow : OpenClaim := { program := "ytbofhoonlmikcaagreatdoor", sum := "26d933a7cab13f132d412f3d4289136e7d66606ea22eb4870246cd81da1a4293", func := "tollhouse/tollhouselaw07.CommitPoints", spec := "commitPoints", inPlace := ["math/bits.Sub64", "math/bits.Add64"], unfollowed := true, recurses := true, named := ["tollhouse/sha.cubeRoots", "tollhouse/tollhouseref01.table"], plainKeys := false, apart := false, laid := [("tollhouse/tollhouseref01.table", laid_tollhouse_tollhouseref01_table), ("tollhouse/sha.cubeRoots", laid_tollhouse_sha_cubeRoots)], narrowed := true }
def CommitPointsUptoSaid : Prop := commitPointsUptoRow.holds Tryz.pinned (OpenSpec.upto commitPointsSpec)

/-- 'tollhouselaw07.CommitTags', WHERE WHAT IT READS IS OF BULK AT MOST 1048576: true; the input reads as it did. -/
def commitTagsUptoRow : OpenClaim := { program := "ytbofhoonlmikcaagreatdoor", sum := "26d933a7cab13f132d412f3d4289136e7d66606ea22eb4870246cd81da1a4293", func := "tollhouse/tollhouselaw07.CommitTags", spec := "commitTags", inPlace := ["math/bits.Sub64", "math/bits.Add64"], unfollowed := true, recurses := true, named := ["tollhouse/sha.cubeRoots", "tollhouse/tollhouseref01.table"], plainKeys := false, apart := false, laid := [("tollhouse/tollhouseref01.table", laid_tollhouse_tollhouseref01_table), ("tollhouse/sha.cubeRoots", laid_tollhouse_sha_cubeRoots)], narrowed := true }
def CommitTagsUptoSaid : Prop := commitTagsUptoRow.holds Tryz.pinned (OpenSpec.upto commitTagsSpec)

/-- 'tollhouselaw07.CommitOpens', WHERE WHAT IT READS IS OF BULK AT MOST 1048576: true; the input reads as it did. -/
def commitOpensUptoRow : OpenClaim := { program := "ytbofhoonlmikcaagreatdoor", sum := "26d933a7cab13f132d412f3d4289136e7d66606ea22eb4870246cd81da1a4293", func := "tollhouse/tollhouselaw07.CommitOpens", spec := "commitOpens", inPlace := ["math/bits.Sub64", "math/bits.Add64"], unfollowed := true, recurses := true, named := ["tollhouse/sha.cubeRoots", "tollhouse/tollhouseref01.table"], plainKeys := false, apart := false, laid := [("tollhouse/tollhouseref01.table", laid_tollhouse_tollhouseref01_table), ("tollhouse/sha.cubeRoots", laid_tollhouse_sha_cubeRoots)], narrowed := true }
def CommitOpensUptoSaid : Prop := commitOpensUptoRow.holds Tryz.pinned (OpenSpec.upto commitOpensSpec)

/-- 'tollhouselaw07.CommitHides', WHERE WHAT IT READS IS OF BULK AT MOST 1048576: true; the input reads as it did. -/
def commitHidesUptoRow : OpenClaim := { program := "ytbofhoonlmikcaagreatdoor", sum := "26d933a7cab13f132d412f3d4289136e7d66606ea22eb4870246cd81da1a4293", func := "tollhouse/tollhouselaw07.CommitHides", spec := "commitHides", inPlace := ["math/bits.Add64", "math/bits.Sub64"], unfollowed := true, recurses := true, named := ["tollhouse/sha.cubeRoots", "tollhouse/tollhouseref01.table"], plainKeys := false, apart := false, laid := [("tollhouse/tollhouseref01.table", laid_tollhouse_tollhouseref01_table), ("tollhouse/sha.cubeRoots", laid_tollhouse_sha_cubeRoots)], narrowed := true }
def CommitHidesUptoSaid : Prop := commitHidesUptoRow.holds Tryz.pinned (OpenSpec.upto commitHidesSpec)

/-- 'tollhouselaw07.CommitSums', WHERE WHAT IT READS IS OF BULK AT MOST 1048576: true; the input reads as it did. -/
def commitSumsUptoRow : OpenClaim := { program := "ytbofhoonlmikcaagreatdoor", sum := "26d933a7cab13f132d412f3d4289136e7d66606ea22eb4870246cd81da1a4293", func := "tollhouse/tollhouselaw07.CommitSums", spec := "commitSums", inPlace := ["math/bits.Sub64", "math/bits.Add64"], unfollowed := true, recurses := true, named := ["tollhouse/sha.cubeRoots"], plainKeys := false, apart := false, laid := [("tollhouse/sha.cubeRoots", laid_tollhouse_sha_cubeRoots)], narrowed := true }
def CommitSumsUptoSaid : Prop := commitSumsUptoRow.holds Tryz.pinned (OpenSpec.upto commitSumsSpec)

end Rows
end Go.Proofs.YtbofhoonlmikcaaGreatDoor
