/-
  DERIVED. GIVEN WITH THE SEED: THE CARDS: each row of YtlooclodlpcglaaGreatDoorRows.lean that lists a variable, with what it lists TIED to the program's text (the seventh form; the later family's looks); each row that meets fmt, with fmt's text TOLD by the authors' own Lean function (tested against real Go, not proved from fmt's source: count such statements apart). THE CARD IS WHAT COUNTS. Prove the row's statement (the work); the ties are given (YtlooclodlpcglaaGreatDoorTie.lean); close each card by the builder's one call (the guide's Derived/Test/ToyasCard.lean, 'card_holds'). Laid BY PROGRAM, IN A SANDBOX (cutbox-door.mjs). By AI agents, Wed Nov 11 2026. No macro, syntax, notation, axiom, sorry.
-/
import Derived.Test.YtlooclodlpcglaaGreatDoorRows
import GoSem.ClaimSeven
namespace Go.Proofs.YtlooclodlpcglaaGreatDoor
namespace Rows

/-- THE TIED CARD OF 'tollhouselaw08.RingSigns'. -/
def ringSignsCard : Claim7 := { stood := { row := ringSignsRow, standIns := [], harness := (true, "81972fda7345380d754119768edab1cc2da405f32c6eeee61ea8d1b923e17eb7"), looks := false }, kinds := [], alts := [], laidByText := true, laidKinds := [.data, .data], laidTests := true, laidLooks := .later }
def RingSignsCardSaid : Prop := Claim7.holds Tryz.pinned (.plain (OpenSpec.ofChange ringSignsSpec)) ringSignsCard

/-- THE TIED CARD OF 'tollhouselaw08.RingVerifies'. -/
def ringVerifiesCard : Claim7 := { stood := { row := ringVerifiesRow, standIns := [], harness := (true, "81972fda7345380d754119768edab1cc2da405f32c6eeee61ea8d1b923e17eb7"), looks := false }, kinds := [], alts := [], laidByText := true, laidKinds := [.data, .data], laidTests := true, laidLooks := .later }
def RingVerifiesCardSaid : Prop := Claim7.holds Tryz.pinned (.plain (OpenSpec.ofChange ringVerifiesSpec)) ringVerifiesCard

/-- THE TIED CARD OF 'tollhouselaw08.RingBack'. -/
def ringBackCard : Claim7 := { stood := { row := ringBackRow, standIns := [], harness := (true, "81972fda7345380d754119768edab1cc2da405f32c6eeee61ea8d1b923e17eb7"), looks := false }, kinds := [], alts := [], laidByText := true, laidKinds := [.data, .data], laidTests := true, laidLooks := .later }
def RingBackCardSaid : Prop := Claim7.holds Tryz.pinned (.plain (OpenSpec.ofChange ringBackSpec)) ringBackCard

/-- THE TIED CARD OF 'tollhouselaw08.RingCodes'. -/
def ringCodesCard : Claim7 := { stood := { row := ringCodesRow, standIns := [], harness := (true, "81972fda7345380d754119768edab1cc2da405f32c6eeee61ea8d1b923e17eb7"), looks := false }, kinds := [], alts := [], laidByText := true, laidKinds := [.data], laidTests := true, laidLooks := .later }
def RingCodesCardSaid : Prop := Claim7.holds Tryz.pinned (.plain (OpenSpec.ofChange ringCodesSpec)) ringCodesCard

/-- THE TIED CARD OF 'tollhouselaw08.RingOnly'. -/
def ringOnlyCard : Claim7 := { stood := { row := ringOnlyRow, standIns := [], harness := (true, "81972fda7345380d754119768edab1cc2da405f32c6eeee61ea8d1b923e17eb7"), looks := false }, kinds := [], alts := [], laidByText := true, laidKinds := [.data], laidTests := true, laidLooks := .later }
def RingOnlyCardSaid : Prop := Claim7.holds Tryz.pinned (.plain (OpenSpec.ofChange ringOnlySpec)) ringOnlyCard

/-- THE TIED CARD OF 'tollhouselaw09.RangepProves'. -/
def rangepProvesCard : Claim7 := { stood := { row := rangepProvesRow, standIns := [], harness := (true, "81972fda7345380d754119768edab1cc2da405f32c6eeee61ea8d1b923e17eb7"), looks := false }, kinds := [], alts := [], laidByText := true, laidKinds := [.data, .data], laidTests := true, laidLooks := .later }
def RangepProvesCardSaid : Prop := Claim7.holds Tryz.pinned (.plain (OpenSpec.ofChange rangepProvesSpec)) rangepProvesCard

/-- THE TIED CARD OF 'tollhouselaw09.RangepVerifies'. -/
def rangepVerifiesCard : Claim7 := { stood := { row := rangepVerifiesRow, standIns := [], harness := (true, "81972fda7345380d754119768edab1cc2da405f32c6eeee61ea8d1b923e17eb7"), looks := false }, kinds := [], alts := [], laidByText := true, laidKinds := [.data, .data], laidTests := true, laidLooks := .later }
def RangepVerifiesCardSaid : Prop := Claim7.holds Tryz.pinned (.plain (OpenSpec.ofChange rangepVerifiesSpec)) rangepVerifiesCard

/-- THE TIED CARD OF 'tollhouselaw09.RangepBack'. -/
def rangepBackCard : Claim7 := { stood := { row := rangepBackRow, standIns := [], harness := (true, "81972fda7345380d754119768edab1cc2da405f32c6eeee61ea8d1b923e17eb7"), looks := false }, kinds := [], alts := [], laidByText := true, laidKinds := [.data, .data], laidTests := true, laidLooks := .later }
def RangepBackCardSaid : Prop := Claim7.holds Tryz.pinned (.plain (OpenSpec.ofChange rangepBackSpec)) rangepBackCard

/-- THE TIED CARD OF 'tollhouselaw09.RangepOpens'. -/
def rangepOpensCard : Claim7 := { stood := { row := rangepOpensRow, standIns := [], harness := (true, "81972fda7345380d754119768edab1cc2da405f32c6eeee61ea8d1b923e17eb7"), looks := false }, kinds := [], alts := [], laidByText := true, laidKinds := [.data, .data], laidTests := true, laidLooks := .later }
def RangepOpensCardSaid : Prop := Claim7.holds Tryz.pinned (.plain (OpenSpec.ofChange rangepOpensSpec)) rangepOpensCard

/-- THE SECOND FORM's CARD OF 'tollhouselaw08.RingSigns'. -/
def ringSignsUptoCard : Claim7 := { stood := { row := ringSignsUptoRow, standIns := [], harness := (true, "81972fda7345380d754119768edab1cc2da405f32c6eeee61ea8d1b923e17eb7"), looks := false }, kinds := [], alts := [], laidByText := true, laidKinds := [.data, .data], laidTests := true, laidLooks := .later }
def RingSignsUptoCardSaid : Prop := Claim7.holds Tryz.pinned (.plain (OpenSpec.upto ringSignsSpec)) ringSignsUptoCard

/-- THE SECOND FORM's CARD OF 'tollhouselaw08.RingVerifies'. -/
def ringVerifiesUptoCard : Claim7 := { stood := { row := ringVerifiesUptoRow, standIns := [], harness := (true, "81972fda7345380d754119768edab1cc2da405f32c6eeee61ea8d1b923e17eb7"), looks := false }, kinds := [], alts := [], laidByText := true, laidKinds := [.data, .data], laidTests := true, laidLooks := .later }
def RingVerifiesUptoCardSaid : Prop := Claim7.holds Tryz.pinned (.plain (OpenSpec.upto ringVerifiesSpec)) ringVerifiesUptoCard

/-- THE SECOND FORM's CARD OF 'tollhouselaw08.RingBack'. -/
def ringBackUptoCard : Claim7 := { stood := { row := ringBackUptoRow, standIns := [], harness := (true, "81972fda7345380d754119768edab1cc2da405f32c6eeee61ea8d1b923e17eb7"), looks := false }, kinds := [], alts := [], laidByText := true, laidKinds := [.data, .data], laidTests := true, laidLooks := .later }
def RingBackUptoCardSaid : Prop := Claim7.holds Tryz.pinned (.plain (OpenSpec.upto ringBackSpec)) ringBackUptoCard

/-- THE SECOND FORM's CARD OF 'tollhouselaw08.RingCodes'. -/
def ringCodesUptoCard : Claim7 := { stood := { row := ringCodesUptoRow, standIns := [], harness := (true, "81972fda7345380d754119768edab1cc2da405f32c6eeee61ea8d1b923e17eb7"), looks := false }, kinds := [], alts := [], laidByText := true, laidKinds := [.data], laidTests := true, laidLooks := .later }
def RingCodesUptoCardSaid : Prop := Claim7.holds Tryz.pinned (.plain (OpenSpec.upto ringCodesSpec)) ringCodesUptoCard

/-- THE SECOND FORM's CARD OF 'tollhouselaw08.RingOnly'. -/
def ringOnlyUptoCard : Claim7 := { stood := { row := ringOnlyUptoRow, standIns := [], harness := (true, "81972fda7345380d754119768edab1cc2da405f32c6eeee61ea8d1b923e17eb7"), looks := false }, kinds := [], alts := [], laidByText := true, laidKinds := [.data], laidTests := true, laidLooks := .later }
def RingOnlyUptoCardSaid : Prop := Claim7.holds Tryz.pinned (.plain (OpenSpec.upto ringOnlySpec)) ringOnlyUptoCard

/-- THE SECOND FORM's CARD OF 'tollhouselaw09.RangepProves'. -/
def rangepProvesUptoCard : Claim7 := { stood := { row := rangepProvesUptoRow, standIns := [], harness := (true, "81972fda7345380d754119768edab1cc2da405f32c6eeee61ea8d1b923e17eb7"), looks := false }, kinds := [], alts := [], laidByText := true, laidKinds := [.data, .data], laidTests := true, laidLooks := .later }
def RangepProvesUptoCardSaid : Prop := Claim7.holds Tryz.pinned (.plain (OpenSpec.upto rangepProvesSpec)) rangepProvesUptoCard

/-- THE SECOND FORM's CARD OF 'tollhouselaw09.RangepVerifies'. -/
def rangepVerifiesUptoCard : Claim7 := { stood := { row := rangepVerifiesUptoRow, standIns := [], harness := (true, "81972fda7345380d754119768edab1cc2da405f32c6eeee61ea8d1b923e17eb7"), looks := false }, kinds := [], alts := [], laidByText := true, laidKinds := [.data, .data], laidTests := true, laidLooks := .later }
def RangepVerifiesUptoCardSaid : Prop := Claim7.holds Tryz.pinned (.plain (OpenSpec.upto rangepVerifiesSpec)) rangepVerifiesUptoCard

/-- THE SECOND FORM's CARD OF 'tollhouselaw09.RangepBack'. -/
def rangepBackUptoCard : Claim7 := { stood := { row := rangepBackUptoRow, standIns := [], harness := (true, "81972fda7345380d754119768edab1cc2da405f32c6eeee61ea8d1b923e17eb7"), looks := false }, kinds := [], alts := [], laidByText := true, laidKinds := [.data, .data], laidTests := true, laidLooks := .later }
def RangepBackUptoCardSaid : Prop := Claim7.holds Tryz.pinned (.plain (OpenSpec.upto rangepBackSpec)) rangepBackUptoCard

/-- THE SECOND FORM's CARD OF 'tollhouselaw09.RangepOpens'. -/
def rangepOpensUptoCard : Claim7 := { stood := { row := rangepOpensUptoRow, standIns := [], harness := (true, "81972fda7345380d754119768edab1cc2da405f32c6eeee61ea8d1b923e17eb7"), looks := false }, kinds := [], alts := [], laidByText := true, laidKinds := [.data, .data], laidTests := true, laidLooks := .later }
def RangepOpensUptoCardSaid : Prop := Claim7.holds Tryz.pinned (.plain (OpenSpec.upto rangepOpensSpec)) rangepOpensUptoCard
end Rows
end Go.Proofs.YtlooclodlpcglaaGreatDoor
