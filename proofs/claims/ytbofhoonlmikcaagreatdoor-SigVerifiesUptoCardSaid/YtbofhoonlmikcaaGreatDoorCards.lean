/-
  DERIVED. GIVEN WITH THE SEED: THE CARDS: each row of YtbofhoonlmikcaaGreatDoorRows.lean that lists a variable, with what it lists TIED to the program's text (the seventh form; the later family's looks); each row that meets fmt, with fmt's text TOLD by the authors' own Lean function (tested against real Go, not proved from fmt's source: count such statements apart). THE CARD IS WHAT COUNTS. Prove the row's statement (the work); the ties are given (YtbofhoonlmikcaaGreatDoorTie.lean); close each card by the builder's one call (the guide's Derived/Test/ToyasCard.lean, 'card_holds'). Laid BY PROGRAM, IN A SANDBOX (cutbox-door.mjs). By AI agents, Wed Nov 11 2026. No macro, syntax, notation, axiom, sorry.
-/
import Derived.Test.YtbofhoonlmikcaaGreatDoorRows
import GoSem.ClaimSeven
namespace Go.Proofs.YtbofhoonlmikcaaGreatDoor
namespace Rows

/-- THE TIED CARD OF 'tollhouselaw06.SigSigns'. -/
def sigSignsCard : Claim7 := { stood := { row := sigSignsRow, standIns := [], harness := (true, "a7e5a0e12e6d575a73340008d7dc8fc6e4c07ddd138c6873f3fc53031ea268b2"), looks := false }, kinds := [], alts := [], laidByText := true, laidKinds := [.data, .data], laidTests := true, laidLooks := .later }
def SigSignsCardSaid : Prop := Claim7.holds Tryz.pinned (.plain (OpenSpec.ofChange sigSignsSpec)) sigSignsCard

/-- THE TIED CARD OF 'tollhouselaw06.SigVerifies'. -/
def sigVerifiesCard : Claim7 := { stood := { row := sigVerifiesRow, standIns := [], harness := (true, "a7e5a0e12e6d575a73340008d7dc8fc6e4c07ddd138c6873f3fc53031ea268b2"), looks := false }, kinds := [], alts := [], laidByText := true, laidKinds := [.data, .data], laidTests := true, laidLooks := .later }
def SigVerifiesCardSaid : Prop := Claim7.holds Tryz.pinned (.plain (OpenSpec.ofChange sigVerifiesSpec)) sigVerifiesCard

/-- THE TIED CARD OF 'tollhouselaw06.SigEnough'. -/
def sigEnoughCard : Claim7 := { stood := { row := sigEnoughRow, standIns := [], harness := (true, "a7e5a0e12e6d575a73340008d7dc8fc6e4c07ddd138c6873f3fc53031ea268b2"), looks := false }, kinds := [], alts := [], laidByText := true, laidKinds := [.data, .data], laidTests := true, laidLooks := .later }
def SigEnoughCardSaid : Prop := Claim7.holds Tryz.pinned (.plain (OpenSpec.ofChange sigEnoughSpec)) sigEnoughCard

/-- THE TIED CARD OF 'tollhouselaw06.SigMany'. -/
def sigManyCard : Claim7 := { stood := { row := sigManyRow, standIns := [], harness := (true, "a7e5a0e12e6d575a73340008d7dc8fc6e4c07ddd138c6873f3fc53031ea268b2"), looks := false }, kinds := [], alts := [], laidByText := true, laidKinds := [.data, .data], laidTests := true, laidLooks := .later }
def SigManyCardSaid : Prop := Claim7.holds Tryz.pinned (.plain (OpenSpec.ofChange sigManySpec)) sigManyCard

/-- THE TIED CARD OF 'tollhouselaw07.CommitPoints'. -/
def commitPointsCard : Claim7 := { stood := { row := commitPointsRow, standIns := [], harness := (true, "a7e5a0e12e6d575a73340008d7dc8fc6e4c07ddd138c6873f3fc53031ea268b2"), looks := false }, kinds := [], alts := [], laidByText := true, laidKinds := [.data, .data], laidTests := true, laidLooks := .later }
def CommitPointsCardSaid : Prop := Claim7.holds Tryz.pinned (.plain (OpenSpec.ofChange commitPointsSpec)) commitPointsCard

/-- THE TIED CARD OF 'tollhouselaw07.CommitTags'. -/
def commitTagsCard : Claim7 := { stood := { row := commitTagsRow, standIns := [], harness := (true, "a7e5a0e12e6d575a73340008d7dc8fc6e4c07ddd138c6873f3fc53031ea268b2"), looks := false }, kinds := [], alts := [], laidByText := true, laidKinds := [.data, .data], laidTests := true, laidLooks := .later }
def CommitTagsCardSaid : Prop := Claim7.holds Tryz.pinned (.plain (OpenSpec.ofChange commitTagsSpec)) commitTagsCard

/-- THE TIED CARD OF 'tollhouselaw07.CommitOpens'. -/
def commitOpensCard : Claim7 := { stood := { row := commitOpensRow, standIns := [], harness := (true, "a7e5a0e12e6d575a73340008d7dc8fc6e4c07ddd138c6873f3fc53031ea268b2"), looks := false }, kinds := [], alts := [], laidByText := true, laidKinds := [.data, .data], laidTests := true, laidLooks := .later }
def CommitOpensCardSaid : Prop := Claim7.holds Tryz.pinned (.plain (OpenSpec.ofChange commitOpensSpec)) commitOpensCard

/-- THE TIED CARD OF 'tollhouselaw07.CommitHides'. -/
def commitHidesCard : Claim7 := { stood := { row := commitHidesRow, standIns := [], harness := (true, "a7e5a0e12e6d575a73340008d7dc8fc6e4c07ddd138c6873f3fc53031ea268b2"), looks := false }, kinds := [], alts := [], laidByText := true, laidKinds := [.data, .data], laidTests := true, laidLooks := .later }
def CommitHidesCardSaid : Prop := Claim7.holds Tryz.pinned (.plain (OpenSpec.ofChange commitHidesSpec)) commitHidesCard

/-- THE TIED CARD OF 'tollhouselaw07.CommitSums'. -/
def commitSumsCard : Claim7 := { stood := { row := commitSumsRow, standIns := [], harness := (true, "a7e5a0e12e6d575a73340008d7dc8fc6e4c07ddd138c6873f3fc53031ea268b2"), looks := false }, kinds := [], alts := [], laidByText := true, laidKinds := [.data], laidTests := true, laidLooks := .later }
def CommitSumsCardSaid : Prop := Claim7.holds Tryz.pinned (.plain (OpenSpec.ofChange commitSumsSpec)) commitSumsCard

/-- THE SECOND FORM's CARD OF 'tollhouselaw06.SigSigns'. -/
def sigSignsUptoCard : Claim7 := { stood := { row := sigSignsUptoRow, standIns := [], harness := (true, "a7e5a0e12e6d575a73340008d7dc8fc6e4c07ddd138c6873f3fc53031ea268b2"), looks := false }, kinds := [], alts := [], laidByText := true, laidKinds := [.data, .data], laidTests := true, laidLooks := .later }
def SigSignsUptoCardSaid : Prop := Claim7.holds Tryz.pinned (.plain (OpenSpec.upto sigSignsSpec)) sigSignsUptoCard

/-- THE SECOND FORM's CARD OF 'tollhouselaw06.SigVerifies'. -/
def sigVerifiesUptoCard : Claim7 := { stood := { row := sigVerifiesUptoRow, standIns := [], harness := (true, "a7e5a0e12e6d575a73340008d7dc8fc6e4c07ddd138c6873f3fc53031ea268b2"), looks := false }, kinds := [], alts := [], laidByText := true, laidKinds := [.data, .data], laidTests := true, laidLooks := .later }
def SigVerifiesUptoCardSaid : Prop := Claim7.holds Tryz.pinned (.plain (OpenSpec.upto sigVerifiesSpec)) sigVerifiesUptoCard

/-- THE SECOND FORM's CARD OF 'tollhouselaw06.SigEnough'. -/
def sigEnoughUptoCard : Claim7 := { stood := { row := sigEnoughUptoRow, standIns := [], harness := (true, "a7e5a0e12e6d575a73340008d7dc8fc6e4c07ddd138c6873f3fc53031ea268b2"), looks := false }, kinds := [], alts := [], laidByText := true, laidKinds := [.data, .data], laidTests := true, laidLooks := .later }
def SigEnoughUptoCardSaid : Prop := Claim7.holds Tryz.pinned (.plain (OpenSpec.upto sigEnoughSpec)) sigEnoughUptoCard

/-- THE SECOND FORM's CARD OF 'tollhouselaw06.SigMany'. -/
def sigManyUptoCard : Claim7 := { stood := { row := sigManyUptoRow, standIns := [], harness := (true, "a7e5a0e12e6d575a73340008d7dc8fc6e4c07ddd138c6873f3fc53031ea268b2"), looks := false }, kinds := [], alts := [], laidByText := true, laidKinds := [.data, .data], laidTests := true, laidLooks := .later }
def SigManyUptoCardSaid : Prop := Claim7.holds Tryz.pinned (.plain (OpenSpec.upto sigManySpec)) sigManyUptoCard

/-- THE SECOND FORM's CARD OF 'tollhouselaw07.CommitPoints'. -/
def commitPointsUptoCard : Claim7 := { stood := { row := commitPointsUptoRow, standIns := [], harness := (true, "a7e5a0e12e6d575a73340008d7dc8fc6e4c07ddd138c6873f3fc53031ea268b2"), looks := false }, kinds := [], alts := [], laidByText := true, laidKinds := [.data, .data], laidTests := true, laidLooks := .later }
def CommitPointsUptoCardSaid : Prop := Claim7.holds Tryz.pinned (.plain (OpenSpec.upto commitPointsSpec)) commitPointsUptoCard

/-- THE SECOND FORM's CARD OF 'tollhouselaw07.CommitTags'. -/
def commitTagsUptoCard : Claim7 := { stood := { row := commitTagsUptoRow, standIns := [], harness := (true, "a7e5a0e12e6d575a73340008d7dc8fc6e4c07ddd138c6873f3fc53031ea268b2"), looks := false }, kinds := [], alts := [], laidByText := true, laidKinds := [.data, .data], laidTests := true, laidLooks := .later }
def CommitTagsUptoCardSaid : Prop := Claim7.holds Tryz.pinned (.plain (OpenSpec.upto commitTagsSpec)) commitTagsUptoCard

/-- THE SECOND FORM's CARD OF 'tollhouselaw07.CommitOpens'. -/
def commitOpensUptoCard : Claim7 := { stood := { row := commitOpensUptoRow, standIns := [], harness := (true, "a7e5a0e12e6d575a73340008d7dc8fc6e4c07ddd138c6873f3fc53031ea268b2"), looks := false }, kinds := [], alts := [], laidByText := true, laidKinds := [.data, .data], laidTests := true, laidLooks := .later }
def CommitOpensUptoCardSaid : Prop := Claim7.holds Tryz.pinned (.plain (OpenSpec.upto commitOpensSpec)) commitOpensUptoCard

/-- THE SECOND FORM's CARD OF 'tollhouselaw07.CommitHides'. -/
def commitHidesUptoCard : Claim7 := { stood := { row := commitHidesUptoRow, standIns := [], harness := (true, "a7e5a0e12e6d575a73340008d7dc8fc6e4c07ddd138c6873f3fc53031ea268b2"), looks := false }, kinds := [], alts := [], laidByText := true, laidKinds := [.data, .data], laidTests := true, laidLooks := .later }
def CommitHidesUptoCardSaid : Prop := Claim7.holds Tryz.pinned (.plain (OpenSpec.upto commitHidesSpec)) commitHidesUptoCard

/-- THE SECOND FORM's CARD OF 'tollhouselaw07.CommitSums'. -/
def commitSumsUptoCard : Claim7 := { stood := { row := commitSumsUptoRow, standIns := [], harness := (true, "a7e5a0e12e6d575a73340008d7dc8fc6e4c07ddd138c6873f3fc53031ea268b2"), looks := false }, kinds := [], alts := [], laidByText := true, laidKinds := [.data], laidTests := true, laidLooks := .later }
def CommitSumsUptoCardSaid : Prop := Claim7.holds Tryz.pinned (.plain (OpenSpec.upto commitSumsSpec)) commitSumsUptoCard
end Rows
end Go.Proofs.YtbofhoonlmikcaaGreatDoor
