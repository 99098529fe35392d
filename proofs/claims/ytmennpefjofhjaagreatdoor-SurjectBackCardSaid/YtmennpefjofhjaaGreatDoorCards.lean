/-
  DERIVED. GIVEN WITH THE SEED: THE CARDS: each row of YtmennpefjofhjaaGreatDoorRows.lean that lists a variable, with what it lists TIED to the program's text (the seventh form; the later family's looks); each row that meets fmt, with fmt's text TOLD by the authors' own Lean function (tested against real Go, not proved from fmt's source: count such statements apart). THE CARD IS WHAT COUNTS. Prove the row's statement (the work); the ties are given (YtmennpefjofhjaaGreatDoorTie.lean); close each card by the builder's one call (the guide's Derived/Test/ToyasCard.lean, 'card_holds'). Laid BY PROGRAM, IN A SANDBOX (cutbox-door.mjs). By AI agents, Wed Nov 11 2026. No macro, syntax, notation, axiom, sorry.
-/
import Derived.Test.YtmennpefjofhjaaGreatDoorRows
import GoSem.ClaimSeven
namespace Go.Proofs.YtmennpefjofhjaaGreatDoor
namespace Rows

/-- THE TIED CARD OF 'tollhouselaw08.RingBack'. -/
def ringBackCard : Claim7 := { stood := { row := ringBackRow, standIns := [], harness := (true, "d6e2e1e05ce6a5df10186e99a91c82a39062d2f1cd3d30ab3112a3a7841e08af"), looks := false }, kinds := [], alts := [], laidByText := true, laidKinds := [.data, .data], laidTests := true, laidLooks := .later }
def RingBackCardSaid : Prop := Claim7.holds Tryz.pinned (.plain (OpenSpec.ofChange ringBackSpec)) ringBackCard

/-- THE TIED CARD OF 'tollhouselaw08.RingCodes'. -/
def ringCodesCard : Claim7 := { stood := { row := ringCodesRow, standIns := [], harness := (true, "d6e2e1e05ce6a5df10186e99a91c82a39062d2f1cd3d30ab3112a3a7841e08af"), looks := false }, kinds := [], alts := [], laidByText := true, laidKinds := [.data], laidTests := true, laidLooks := .later }
def RingCodesCardSaid : Prop := Claim7.holds Tryz.pinned (.plain (OpenSpec.ofChange ringCodesSpec)) ringCodesCard

/-- THE TIED CARD OF 'tollhouselaw08.RingOnly'. -/
def ringOnlyCard : Claim7 := { stood := { row := ringOnlyRow, standIns := [], harness := (true, "d6e2e1e05ce6a5df10186e99a91c82a39062d2f1cd3d30ab3112a3a7841e08af"), looks := false }, kinds := [], alts := [], laidByText := true, laidKinds := [.data], laidTests := true, laidLooks := .later }
def RingOnlyCardSaid : Prop := Claim7.holds Tryz.pinned (.plain (OpenSpec.ofChange ringOnlySpec)) ringOnlyCard

/-- THE TIED CARD OF 'tollhouselaw09.RangepProves'. -/
def rangepProvesCard : Claim7 := { stood := { row := rangepProvesRow, standIns := [], harness := (true, "d6e2e1e05ce6a5df10186e99a91c82a39062d2f1cd3d30ab3112a3a7841e08af"), looks := false }, kinds := [], alts := [], laidByText := true, laidKinds := [.data, .data], laidTests := true, laidLooks := .later }
def RangepProvesCardSaid : Prop := Claim7.holds Tryz.pinned (.plain (OpenSpec.ofChange rangepProvesSpec)) rangepProvesCard

/-- THE TIED CARD OF 'tollhouselaw09.RangepVerifies'. -/
def rangepVerifiesCard : Claim7 := { stood := { row := rangepVerifiesRow, standIns := [], harness := (true, "d6e2e1e05ce6a5df10186e99a91c82a39062d2f1cd3d30ab3112a3a7841e08af"), looks := false }, kinds := [], alts := [], laidByText := true, laidKinds := [.data, .data], laidTests := true, laidLooks := .later }
def RangepVerifiesCardSaid : Prop := Claim7.holds Tryz.pinned (.plain (OpenSpec.ofChange rangepVerifiesSpec)) rangepVerifiesCard

/-- THE TIED CARD OF 'tollhouselaw09.RangepBack'. -/
def rangepBackCard : Claim7 := { stood := { row := rangepBackRow, standIns := [], harness := (true, "d6e2e1e05ce6a5df10186e99a91c82a39062d2f1cd3d30ab3112a3a7841e08af"), looks := false }, kinds := [], alts := [], laidByText := true, laidKinds := [.data, .data], laidTests := true, laidLooks := .later }
def RangepBackCardSaid : Prop := Claim7.holds Tryz.pinned (.plain (OpenSpec.ofChange rangepBackSpec)) rangepBackCard

/-- THE TIED CARD OF 'tollhouselaw09.RangepOpens'. -/
def rangepOpensCard : Claim7 := { stood := { row := rangepOpensRow, standIns := [], harness := (true, "d6e2e1e05ce6a5df10186e99a91c82a39062d2f1cd3d30ab3112a3a7841e08af"), looks := false }, kinds := [], alts := [], laidByText := true, laidKinds := [.data, .data], laidTests := true, laidLooks := .later }
def RangepOpensCardSaid : Prop := Claim7.holds Tryz.pinned (.plain (OpenSpec.ofChange rangepOpensSpec)) rangepOpensCard

/-- THE TIED CARD OF 'tollhouselaw10.SurjectProves'. -/
def surjectProvesCard : Claim7 := { stood := { row := surjectProvesRow, standIns := [], harness := (true, "d6e2e1e05ce6a5df10186e99a91c82a39062d2f1cd3d30ab3112a3a7841e08af"), looks := false }, kinds := [], alts := [], laidByText := true, laidKinds := [.data, .data], laidTests := true, laidLooks := .later }
def SurjectProvesCardSaid : Prop := Claim7.holds Tryz.pinned (.plain (OpenSpec.ofChange surjectProvesSpec)) surjectProvesCard

/-- THE TIED CARD OF 'tollhouselaw10.SurjectVerifies'. -/
def surjectVerifiesCard : Claim7 := { stood := { row := surjectVerifiesRow, standIns := [], harness := (true, "d6e2e1e05ce6a5df10186e99a91c82a39062d2f1cd3d30ab3112a3a7841e08af"), looks := false }, kinds := [], alts := [], laidByText := true, laidKinds := [.data, .data], laidTests := true, laidLooks := .later }
def SurjectVerifiesCardSaid : Prop := Claim7.holds Tryz.pinned (.plain (OpenSpec.ofChange surjectVerifiesSpec)) surjectVerifiesCard

/-- THE TIED CARD OF 'tollhouselaw10.SurjectBack'. -/
def surjectBackCard : Claim7 := { stood := { row := surjectBackRow, standIns := [], harness := (true, "d6e2e1e05ce6a5df10186e99a91c82a39062d2f1cd3d30ab3112a3a7841e08af"), looks := false }, kinds := [], alts := [], laidByText := true, laidKinds := [.data], laidTests := true, laidLooks := .later }
def SurjectBackCardSaid : Prop := Claim7.holds Tryz.pinned (.plain (OpenSpec.ofChange surjectBackSpec)) surjectBackCard

/-- THE SECOND FORM's CARD OF 'tollhouselaw08.RingBack'. -/
def ringBackUptoCard : Claim7 := { stood := { row := ringBackUptoRow, standIns := [], harness := (true, "d6e2e1e05ce6a5df10186e99a91c82a39062d2f1cd3d30ab3112a3a7841e08af"), looks := false }, kinds := [], alts := [], laidByText := true, laidKinds := [.data, .data], laidTests := true, laidLooks := .later }
def RingBackUptoCardSaid : Prop := Claim7.holds Tryz.pinned (.plain (OpenSpec.upto ringBackSpec)) ringBackUptoCard

/-- THE SECOND FORM's CARD OF 'tollhouselaw08.RingCodes'. -/
def ringCodesUptoCard : Claim7 := { stood := { row := ringCodesUptoRow, standIns := [], harness := (true, "d6e2e1e05ce6a5df10186e99a91c82a39062d2f1cd3d30ab3112a3a7841e08af"), looks := false }, kinds := [], alts := [], laidByText := true, laidKinds := [.data], laidTests := true, laidLooks := .later }
def RingCodesUptoCardSaid : Prop := Claim7.holds Tryz.pinned (.plain (OpenSpec.upto ringCodesSpec)) ringCodesUptoCard

/-- THE SECOND FORM's CARD OF 'tollhouselaw08.RingOnly'. -/
def ringOnlyUptoCard : Claim7 := { stood := { row := ringOnlyUptoRow, standIns := [], harness := (true, "d6e2e1e05ce6a5df10186e99a91c82a39062d2f1cd3d30ab3112a3a7841e08af"), looks := false }, kinds := [], alts := [], laidByText := true, laidKinds := [.data], laidTests := true, laidLooks := .later }
def RingOnlyUptoCardSaid : Prop := Claim7.holds Tryz.pinned (.plain (OpenSpec.upto ringOnlySpec)) ringOnlyUptoCard

/-- THE SECOND FORM's CARD OF 'tollhouselaw09.RangepProves'. -/
def rangepProvesUptoCard : Claim7 := { stood := { row := rangepProvesUptoRow, standIns := [], harness := (true, "d6e2e1e05ce6a5df10186e99a91c82a39062d2f1cd3d30ab3112a3a7841e08af"), looks := false }, kinds := [], alts := [], laidByText := true, laidKinds := [.data, .data], laidTests := true, laidLooks := .later }
def RangepProvesUptoCardSaid : Prop := Claim7.holds Tryz.pinned (.plain (OpenSpec.upto rangepProvesSpec)) rangepProvesUptoCard

/-- THE SECOND FORM's CARD OF 'tollhouselaw09.RangepVerifies'. -/
def rangepVerifiesUptoCard : Claim7 := { stood := { row := rangepVerifiesUptoRow, standIns := [], harness := (true, "d6e2e1e05ce6a5df10186e99a91c82a39062d2f1cd3d30ab3112a3a7841e08af"), looks := false }, kinds := [], alts := [], laidByText := true, laidKinds := [.data, .data], laidTests := true, laidLooks := .later }
def RangepVerifiesUptoCardSaid : Prop := Claim7.holds Tryz.pinned (.plain (OpenSpec.upto rangepVerifiesSpec)) rangepVerifiesUptoCard

/-- THE SECOND FORM's CARD OF 'tollhouselaw09.RangepBack'. -/
def rangepBackUptoCard : Claim7 := { stood := { row := rangepBackUptoRow, standIns := [], harness := (true, "d6e2e1e05ce6a5df10186e99a91c82a39062d2f1cd3d30ab3112a3a7841e08af"), looks := false }, kinds := [], alts := [], laidByText := true, laidKinds := [.data, .data], laidTests := true, laidLooks := .later }
def RangepBackUptoCardSaid : Prop := Claim7.holds Tryz.pinned (.plain (OpenSpec.upto rangepBackSpec)) rangepBackUptoCard

/-- THE SECOND FORM's CARD OF 'tollhouselaw09.RangepOpens'. -/
def rangepOpensUptoCard : Claim7 := { stood := { row := rangepOpensUptoRow, standIns := [], harness := (true, "d6e2e1e05ce6a5df10186e99a91c82a39062d2f1cd3d30ab3112a3a7841e08af"), looks := false }, kinds := [], alts := [], laidByText := true, laidKinds := [.data, .data], laidTests := true, laidLooks := .later }
def RangepOpensUptoCardSaid : Prop := Claim7.holds Tryz.pinned (.plain (OpenSpec.upto rangepOpensSpec)) rangepOpensUptoCard

/-- THE SECOND FORM's CARD OF 'tollhouselaw10.SurjectProves'. -/
def surjectProvesUptoCard : Claim7 := { stood := { row := surjectProvesUptoRow, standIns := [], harness := (true, "d6e2e1e05ce6a5df10186e99a91c82a39062d2f1cd3d30ab3112a3a7841e08af"), looks := false }, kinds := [], alts := [], laidByText := true, laidKinds := [.data, .data], laidTests := true, laidLooks := .later }
def SurjectProvesUptoCardSaid : Prop := Claim7.holds Tryz.pinned (.plain (OpenSpec.upto surjectProvesSpec)) surjectProvesUptoCard

/-- THE SECOND FORM's CARD OF 'tollhouselaw10.SurjectVerifies'. -/
def surjectVerifiesUptoCard : Claim7 := { stood := { row := surjectVerifiesUptoRow, standIns := [], harness := (true, "d6e2e1e05ce6a5df10186e99a91c82a39062d2f1cd3d30ab3112a3a7841e08af"), looks := false }, kinds := [], alts := [], laidByText := true, laidKinds := [.data, .data], laidTests := true, laidLooks := .later }
def SurjectVerifiesUptoCardSaid : Prop := Claim7.holds Tryz.pinned (.plain (OpenSpec.upto surjectVerifiesSpec)) surjectVerifiesUptoCard

/-- THE SECOND FORM's CARD OF 'tollhouselaw10.SurjectBack'. -/
def surjectBackUptoCard : Claim7 := { stood := { row := surjectBackUptoRow, standIns := [], harness := (true, "d6e2e1e05ce6a5df10186e99a91c82a39062d2f1cd3d30ab3112a3a7841e08af"), looks := false }, kinds := [], alts := [], laidByText := true, laidKinds := [.data], laidTests := true, laidLooks := .later }
def SurjectBackUptoCardSaid : Prop := Claim7.holds Tryz.pinned (.plain (OpenSpec.upto surjectBackSpec)) surjectBackUptoCard
end Rows
end Go.Proofs.YtmennpefjofhjaaGreatDoor
