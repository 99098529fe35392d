/-
  DERIVED. GIVEN WITH THE SEED: THE CARDS: each row of YtbjmjcpdonochaaGreatDoorRows.lean that lists a variable, with what it lists TIED to the program's text (the seventh form; the later family's looks); each row that meets fmt, with fmt's text TOLD by the authors' own Lean function (tested against real Go, not proved from fmt's source: count such statements apart). THE CARD IS WHAT COUNTS. Prove the row's statement (the work); the ties are given (YtbjmjcpdonochaaGreatDoorTie.lean); close each card by the builder's one call (the guide's Derived/Test/ToyasCard.lean, 'card_holds'). Laid BY PROGRAM, IN A SANDBOX (cutbox-door.mjs). By AI agents, Wed Nov 11 2026. No macro, syntax, notation, axiom, sorry.
-/
import Derived.Test.YtbjmjcpdonochaaGreatDoorRows
import GoSem.ClaimSeven
namespace Go.Proofs.YtbjmjcpdonochaaGreatDoor
namespace Rows

/-- THE TIED CARD OF 'tollhouselaw08.RingBack'. -/
def ringBackCard : Claim7 := { stood := { row := ringBackRow, standIns := [], harness := (true, "e044cce0ee71ca1224e2393ae0f73334b4c79822be84dc291c31e16afd3bf44b"), looks := false }, kinds := [], alts := [], laidByText := true, laidKinds := [.data, .data], laidTests := true, laidLooks := .later }
def RingBackCardSaid : Prop := Claim7.holds Tryz.pinned (.plain (OpenSpec.ofChange ringBackSpec)) ringBackCard

/-- THE TIED CARD OF 'tollhouselaw09.RangepProves'. -/
def rangepProvesCard : Claim7 := { stood := { row := rangepProvesRow, standIns := [], harness := (true, "e044cce0ee71ca1224e2393ae0f73334b4c79822be84dc291c31e16afd3bf44b"), looks := false }, kinds := [], alts := [], laidByText := true, laidKinds := [.data, .data], laidTests := true, laidLooks := .later }
def RangepProvesCardSaid : Prop := Claim7.holds Tryz.pinned (.plain (OpenSpec.ofChange rangepProvesSpec)) rangepProvesCard

/-- THE TIED CARD OF 'tollhouselaw09.RangepVerifies'. -/
def rangepVerifiesCard : Claim7 := { stood := { row := rangepVerifiesRow, standIns := [], harness := (true, "e044cce0ee71ca1224e2393ae0f73334b4c79822be84dc291c31e16afd3bf44b"), looks := false }, kinds := [], alts := [], laidByText := true, laidKinds := [.data, .data], laidTests := true, laidLooks := .later }
def RangepVerifiesCardSaid : Prop := Claim7.holds Tryz.pinned (.plain (OpenSpec.ofChange rangepVerifiesSpec)) rangepVerifiesCard

/-- THE TIED CARD OF 'tollhouselaw09.RangepBack'. -/
def rangepBackCard : Claim7 := { stood := { row := rangepBackRow, standIns := [], harness := (true, "e044cce0ee71ca1224e2393ae0f73334b4c79822be84dc291c31e16afd3bf44b"), looks := false }, kinds := [], alts := [], laidByText := true, laidKinds := [.data, .data], laidTests := true, laidLooks := .later }
def RangepBackCardSaid : Prop := Claim7.holds Tryz.pinned (.plain (OpenSpec.ofChange rangepBackSpec)) rangepBackCard

/-- THE TIED CARD OF 'tollhouselaw09.RangepOpens'. -/
def rangepOpensCard : Claim7 := { stood := { row := rangepOpensRow, standIns := [], harness := (true, "e044cce0ee71ca1224e2393ae0f73334b4c79822be84dc291c31e16afd3bf44b"), looks := false }, kinds := [], alts := [], laidByText := true, laidKinds := [.data, .data], laidTests := true, laidLooks := .later }
def RangepOpensCardSaid : Prop := Claim7.holds Tryz.pinned (.plain (OpenSpec.ofChange rangepOpensSpec)) rangepOpensCard

/-- THE TIED CARD OF 'tollhouselaw10.SurjectProves'. -/
def surjectProvesCard : Claim7 := { stood := { row := surjectProvesRow, standIns := [], harness := (true, "e044cce0ee71ca1224e2393ae0f73334b4c79822be84dc291c31e16afd3bf44b"), looks := false }, kinds := [], alts := [], laidByText := true, laidKinds := [.data, .data], laidTests := true, laidLooks := .later }
def SurjectProvesCardSaid : Prop := Claim7.holds Tryz.pinned (.plain (OpenSpec.ofChange surjectProvesSpec)) surjectProvesCard

/-- THE TIED CARD OF 'tollhouselaw10.SurjectVerifies'. -/
def surjectVerifiesCard : Claim7 := { stood := { row := surjectVerifiesRow, standIns := [], harness := (true, "e044cce0ee71ca1224e2393ae0f73334b4c79822be84dc291c31e16afd3bf44b"), looks := false }, kinds := [], alts := [], laidByText := true, laidKinds := [.data, .data], laidTests := true, laidLooks := .later }
def SurjectVerifiesCardSaid : Prop := Claim7.holds Tryz.pinned (.plain (OpenSpec.ofChange surjectVerifiesSpec)) surjectVerifiesCard

/-- THE SECOND FORM's CARD OF 'tollhouselaw08.RingBack'. -/
def ringBackUptoCard : Claim7 := { stood := { row := ringBackUptoRow, standIns := [], harness := (true, "e044cce0ee71ca1224e2393ae0f73334b4c79822be84dc291c31e16afd3bf44b"), looks := false }, kinds := [], alts := [], laidByText := true, laidKinds := [.data, .data], laidTests := true, laidLooks := .later }
def RingBackUptoCardSaid : Prop := Claim7.holds Tryz.pinned (.plain (OpenSpec.upto ringBackSpec)) ringBackUptoCard

/-- THE SECOND FORM's CARD OF 'tollhouselaw09.RangepProves'. -/
def rangepProvesUptoCard : Claim7 := { stood := { row := rangepProvesUptoRow, standIns := [], harness := (true, "e044cce0ee71ca1224e2393ae0f73334b4c79822be84dc291c31e16afd3bf44b"), looks := false }, kinds := [], alts := [], laidByText := true, laidKinds := [.data, .data], laidTests := true, laidLooks := .later }
def RangepProvesUptoCardSaid : Prop := Claim7.holds Tryz.pinned (.plain (OpenSpec.upto rangepProvesSpec)) rangepProvesUptoCard

/-- THE SECOND FORM's CARD OF 'tollhouselaw09.RangepVerifies'. -/
def rangepVerifiesUptoCard : Claim7 := { stood := { row := rangepVerifiesUptoRow, standIns := [], harness := (true, "e044cce0ee71ca1224e2393ae0f73334b4c79822be84dc291c31e16afd3bf44b"), looks := false }, kinds := [], alts := [], laidByText := true, laidKinds := [.data, .data], laidTests := true, laidLooks := .later }
def RangepVerifiesUptoCardSaid : Prop := Claim7.holds Tryz.pinned (.plain (OpenSpec.upto rangepVerifiesSpec)) rangepVerifiesUptoCard

/-- THE SECOND FORM's CARD OF 'tollhouselaw09.RangepBack'. -/
def rangepBackUptoCard : Claim7 := { stood := { row := rangepBackUptoRow, standIns := [], harness := (true, "e044cce0ee71ca1224e2393ae0f73334b4c79822be84dc291c31e16afd3bf44b"), looks := false }, kinds := [], alts := [], laidByText := true, laidKinds := [.data, .data], laidTests := true, laidLooks := .later }
def RangepBackUptoCardSaid : Prop := Claim7.holds Tryz.pinned (.plain (OpenSpec.upto rangepBackSpec)) rangepBackUptoCard

/-- THE SECOND FORM's CARD OF 'tollhouselaw09.RangepOpens'. -/
def rangepOpensUptoCard : Claim7 := { stood := { row := rangepOpensUptoRow, standIns := [], harness := (true, "e044cce0ee71ca1224e2393ae0f73334b4c79822be84dc291c31e16afd3bf44b"), looks := false }, kinds := [], alts := [], laidByText := true, laidKinds := [.data, .data], laidTests := true, laidLooks := .later }
def RangepOpensUptoCardSaid : Prop := Claim7.holds Tryz.pinned (.plain (OpenSpec.upto rangepOpensSpec)) rangepOpensUptoCard

/-- THE SECOND FORM's CARD OF 'tollhouselaw10.SurjectProves'. -/
def surjectProvesUptoCard : Claim7 := { stood := { row := surjectProvesUptoRow, standIns := [], harness := (true, "e044cce0ee71ca1224e2393ae0f73334b4c79822be84dc291c31e16afd3bf44b"), looks := false }, kinds := [], alts := [], laidByText := true, laidKinds := [.data, .data], laidTests := true, laidLooks := .later }
def SurjectProvesUptoCardSaid : Prop := Claim7.holds Tryz.pinned (.plain (OpenSpec.upto surjectProvesSpec)) surjectProvesUptoCard

/-- THE SECOND FORM's CARD OF 'tollhouselaw10.SurjectVerifies'. -/
def surjectVerifiesUptoCard : Claim7 := { stood := { row := surjectVerifiesUptoRow, standIns := [], harness := (true, "e044cce0ee71ca1224e2393ae0f73334b4c79822be84dc291c31e16afd3bf44b"), looks := false }, kinds := [], alts := [], laidByText := true, laidKinds := [.data, .data], laidTests := true, laidLooks := .later }
def SurjectVerifiesUptoCardSaid : Prop := Claim7.holds Tryz.pinned (.plain (OpenSpec.upto surjectVerifiesSpec)) surjectVerifiesUptoCard
end Rows
end Go.Proofs.YtbjmjcpdonochaaGreatDoor
