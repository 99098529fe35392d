/-
  DERIVED. GIVEN WITH THE SEED: THE CARDS: each row of YtgggdbjakcpanaaGreatDoorRows.lean that lists a variable, with what it lists TIED to the program's text (the seventh form; the later family's looks); each row that meets fmt, with fmt's text TOLD by the authors' own Lean function (tested against real Go, not proved from fmt's source: count such statements apart). THE CARD IS WHAT COUNTS. Prove the row's statement (the work); the ties are given (YtgggdbjakcpanaaGreatDoorTie.lean); close each card by the builder's one call (the guide's Derived/Test/ToyasCard.lean, 'card_holds'). Laid BY PROGRAM, IN A SANDBOX (cutbox-door.mjs). By AI agents, Wed Nov 11 2026. No macro, syntax, notation, axiom, sorry.
-/
import Derived.Test.YtgggdbjakcpanaaGreatDoorRows
import GoSem.ClaimSeven
namespace Go.Proofs.YtgggdbjakcpanaaGreatDoor
namespace Rows

/-- THE TIED CARD OF 'tollhouselaw12.WireBack'. -/
def wireBackCard : Claim7 := { stood := { row := wireBackRow, standIns := [], harness := (true, "a8489a15a1a1ca85c77cd798da704c3b07ba3d9a6d5aa42a86df5fa838aa9409"), looks := false }, kinds := [], alts := [], laidByText := true, laidKinds := [.data], laidTests := true, laidLooks := .later }
def WireBackCardSaid : Prop := Claim7.holds Tryz.pinned (.plain (OpenSpec.ofChange wireBackSpec)) wireBackCard

/-- THE TIED CARD OF 'tollhouselaw12.WireNames'. -/
def wireNamesCard : Claim7 := { stood := { row := wireNamesRow, standIns := [], harness := (true, "a8489a15a1a1ca85c77cd798da704c3b07ba3d9a6d5aa42a86df5fa838aa9409"), looks := false }, kinds := [], alts := [], laidByText := true, laidKinds := [.data, .data], laidTests := true, laidLooks := .later }
def WireNamesCardSaid : Prop := Claim7.holds Tryz.pinned (.plain (OpenSpec.ofChange wireNamesSpec)) wireNamesCard

/-- THE TIED CARD OF 'tollhouselaw12.WireWitness'. -/
def wireWitnessCard : Claim7 := { stood := { row := wireWitnessRow, standIns := [], harness := (true, "a8489a15a1a1ca85c77cd798da704c3b07ba3d9a6d5aa42a86df5fa838aa9409"), looks := false }, kinds := [], alts := [], laidByText := true, laidKinds := [.data], laidTests := true, laidLooks := .later }
def WireWitnessCardSaid : Prop := Claim7.holds Tryz.pinned (.plain (OpenSpec.ofChange wireWitnessSpec)) wireWitnessCard

/-- THE TIED CARD OF 'tollhouselaw13.ScriptMessages'. -/
def scriptMessagesCard : Claim7 := { stood := { row := scriptMessagesRow, standIns := [], harness := (true, "a8489a15a1a1ca85c77cd798da704c3b07ba3d9a6d5aa42a86df5fa838aa9409"), looks := false }, kinds := [], alts := [], laidByText := true, laidKinds := [.data, .data], laidTests := true, laidLooks := .later }
def ScriptMessagesCardSaid : Prop := Claim7.holds Tryz.pinned (.plain (OpenSpec.ofChange scriptMessagesSpec)) scriptMessagesCard

/-- THE SECOND FORM's CARD OF 'tollhouselaw12.WireBack'. -/
def wireBackUptoCard : Claim7 := { stood := { row := wireBackUptoRow, standIns := [], harness := (true, "a8489a15a1a1ca85c77cd798da704c3b07ba3d9a6d5aa42a86df5fa838aa9409"), looks := false }, kinds := [], alts := [], laidByText := true, laidKinds := [.data], laidTests := true, laidLooks := .later }
def WireBackUptoCardSaid : Prop := Claim7.holds Tryz.pinned (.plain (OpenSpec.upto wireBackSpec)) wireBackUptoCard

/-- THE SECOND FORM's CARD OF 'tollhouselaw12.WireNames'. -/
def wireNamesUptoCard : Claim7 := { stood := { row := wireNamesUptoRow, standIns := [], harness := (true, "a8489a15a1a1ca85c77cd798da704c3b07ba3d9a6d5aa42a86df5fa838aa9409"), looks := false }, kinds := [], alts := [], laidByText := true, laidKinds := [.data, .data], laidTests := true, laidLooks := .later }
def WireNamesUptoCardSaid : Prop := Claim7.holds Tryz.pinned (.plain (OpenSpec.upto wireNamesSpec)) wireNamesUptoCard

/-- THE SECOND FORM's CARD OF 'tollhouselaw12.WireWitness'. -/
def wireWitnessUptoCard : Claim7 := { stood := { row := wireWitnessUptoRow, standIns := [], harness := (true, "a8489a15a1a1ca85c77cd798da704c3b07ba3d9a6d5aa42a86df5fa838aa9409"), looks := false }, kinds := [], alts := [], laidByText := true, laidKinds := [.data], laidTests := true, laidLooks := .later }
def WireWitnessUptoCardSaid : Prop := Claim7.holds Tryz.pinned (.plain (OpenSpec.upto wireWitnessSpec)) wireWitnessUptoCard

/-- THE SECOND FORM's CARD OF 'tollhouselaw13.ScriptMessages'. -/
def scriptMessagesUptoCard : Claim7 := { stood := { row := scriptMessagesUptoRow, standIns := [], harness := (true, "a8489a15a1a1ca85c77cd798da704c3b07ba3d9a6d5aa42a86df5fa838aa9409"), looks := false }, kinds := [], alts := [], laidByText := true, laidKinds := [.data, .data], laidTests := true, laidLooks := .later }
def ScriptMessagesUptoCardSaid : Prop := Claim7.holds Tryz.pinned (.plain (OpenSpec.upto scriptMessagesSpec)) scriptMessagesUptoCard
end Rows
end Go.Proofs.YtgggdbjakcpanaaGreatDoor
