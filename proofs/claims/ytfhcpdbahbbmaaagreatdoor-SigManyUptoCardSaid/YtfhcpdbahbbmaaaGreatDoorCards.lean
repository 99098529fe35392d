/-
  DERIVED. GIVEN WITH THE SEED: THE CARDS: each row of YtfhcpdbahbbmaaaGreatDoorRows.lean that lists a variable, with what it lists TIED to the program's text (the seventh form; the later family's looks); each row that meets fmt, with fmt's text TOLD by the authors' own Lean function (tested against real Go, not proved from fmt's source: count such statements apart). THE CARD IS WHAT COUNTS. Prove the row's statement (the work); the ties are given (YtfhcpdbahbbmaaaGreatDoorTie.lean); close each card by the builder's one call (the guide's Derived/Test/ToyasCard.lean, 'card_holds'). Laid BY PROGRAM, IN A SANDBOX (cutbox-door.mjs). By AI agents, Wed Nov 11 2026. No macro, syntax, notation, axiom, sorry.
-/
import Derived.Test.YtfhcpdbahbbmaaaGreatDoorRows
import GoSem.ClaimSeven
namespace Go.Proofs.YtfhcpdbahbbmaaaGreatDoor
namespace Rows

/-- THE TIED CARD OF 'tollhouselaw06.SigSigns'. -/
def sigSignsCard : Claim7 := { stood := { row := sigSignsRow, standIns := [], harness := (true, "b5eef73d6883596b2b4ae3233f0e4a8548a852086afd2f467e11d9cddbbc84d0"), looks := false }, kinds := [], alts := [], laidByText := true, laidKinds := [.data, .data], laidTests := true, laidLooks := .later }
def SigSignsCardSaid : Prop := Claim7.holds Tryz.pinned (.plain (OpenSpec.ofChange sigSignsSpec)) sigSignsCard

/-- THE TIED CARD OF 'tollhouselaw06.SigEnough'. -/
def sigEnoughCard : Claim7 := { stood := { row := sigEnoughRow, standIns := [], harness := (true, "b5eef73d6883596b2b4ae3233f0e4a8548a852086afd2f467e11d9cddbbc84d0"), looks := false }, kinds := [], alts := [], laidByText := true, laidKinds := [.data, .data], laidTests := true, laidLooks := .later }
def SigEnoughCardSaid : Prop := Claim7.holds Tryz.pinned (.plain (OpenSpec.ofChange sigEnoughSpec)) sigEnoughCard

/-- THE TIED CARD OF 'tollhouselaw06.SigMany'. -/
def sigManyCard : Claim7 := { stood := { row := sigManyRow, standIns := [], harness := (true, "b5eef73d6883596b2b4ae3233f0e4a8548a852086afd2f467e11d9cddbbc84d0"), looks := false }, kinds := [], alts := [], laidByText := true, laidKinds := [.data, .data], laidTests := true, laidLooks := .later }
def SigManyCardSaid : Prop := Claim7.holds Tryz.pinned (.plain (OpenSpec.ofChange sigManySpec)) sigManyCard

/-- THE TIED CARD OF 'tollhouselaw08.RingSigns'. -/
def ringSignsCard : Claim7 := { stood := { row := ringSignsRow, standIns := [], harness := (true, "b5eef73d6883596b2b4ae3233f0e4a8548a852086afd2f467e11d9cddbbc84d0"), looks := false }, kinds := [], alts := [], laidByText := true, laidKinds := [.data, .data], laidTests := true, laidLooks := .later }
def RingSignsCardSaid : Prop := Claim7.holds Tryz.pinned (.plain (OpenSpec.ofChange ringSignsSpec)) ringSignsCard

/-- THE TIED CARD OF 'tollhouselaw08.RingVerifies'. -/
def ringVerifiesCard : Claim7 := { stood := { row := ringVerifiesRow, standIns := [], harness := (true, "b5eef73d6883596b2b4ae3233f0e4a8548a852086afd2f467e11d9cddbbc84d0"), looks := false }, kinds := [], alts := [], laidByText := true, laidKinds := [.data, .data], laidTests := true, laidLooks := .later }
def RingVerifiesCardSaid : Prop := Claim7.holds Tryz.pinned (.plain (OpenSpec.ofChange ringVerifiesSpec)) ringVerifiesCard

/-- THE TIED CARD OF 'tollhouselaw08.RingBack'. -/
def ringBackCard : Claim7 := { stood := { row := ringBackRow, standIns := [], harness := (true, "b5eef73d6883596b2b4ae3233f0e4a8548a852086afd2f467e11d9cddbbc84d0"), looks := false }, kinds := [], alts := [], laidByText := true, laidKinds := [.data, .data], laidTests := true, laidLooks := .later }
def RingBackCardSaid : Prop := Claim7.holds Tryz.pinned (.plain (OpenSpec.ofChange ringBackSpec)) ringBackCard

/-- THE TIED CARD OF 'tollhouselaw08.RingCodes'. -/
def ringCodesCard : Claim7 := { stood := { row := ringCodesRow, standIns := [], harness := (true, "b5eef73d6883596b2b4ae3233f0e4a8548a852086afd2f467e11d9cddbbc84d0"), looks := false }, kinds := [], alts := [], laidByText := true, laidKinds := [.data], laidTests := true, laidLooks := .later }
def RingCodesCardSaid : Prop := Claim7.holds Tryz.pinned (.plain (OpenSpec.ofChange ringCodesSpec)) ringCodesCard

/-- THE TIED CARD OF 'tollhouselaw08.RingOnly'. -/
def ringOnlyCard : Claim7 := { stood := { row := ringOnlyRow, standIns := [], harness := (true, "b5eef73d6883596b2b4ae3233f0e4a8548a852086afd2f467e11d9cddbbc84d0"), looks := false }, kinds := [], alts := [], laidByText := true, laidKinds := [.data], laidTests := true, laidLooks := .later }
def RingOnlyCardSaid : Prop := Claim7.holds Tryz.pinned (.plain (OpenSpec.ofChange ringOnlySpec)) ringOnlyCard

/-- THE SECOND FORM's CARD OF 'tollhouselaw06.SigSigns'. -/
def sigSignsUptoCard : Claim7 := { stood := { row := sigSignsUptoRow, standIns := [], harness := (true, "b5eef73d6883596b2b4ae3233f0e4a8548a852086afd2f467e11d9cddbbc84d0"), looks := false }, kinds := [], alts := [], laidByText := true, laidKinds := [.data, .data], laidTests := true, laidLooks := .later }
def SigSignsUptoCardSaid : Prop := Claim7.holds Tryz.pinned (.plain (OpenSpec.upto sigSignsSpec)) sigSignsUptoCard

/-- THE SECOND FORM's CARD OF 'tollhouselaw06.SigEnough'. -/
def sigEnoughUptoCard : Claim7 := { stood := { row := sigEnoughUptoRow, standIns := [], harness := (true, "b5eef73d6883596b2b4ae3233f0e4a8548a852086afd2f467e11d9cddbbc84d0"), looks := false }, kinds := [], alts := [], laidByText := true, laidKinds := [.data, .data], laidTests := true, laidLooks := .later }
def SigEnoughUptoCardSaid : Prop := Claim7.holds Tryz.pinned (.plain (OpenSpec.upto sigEnoughSpec)) sigEnoughUptoCard

/-- THE SECOND FORM's CARD OF 'tollhouselaw06.SigMany'. -/
def sigManyUptoCard : Claim7 := { stood := { row := sigManyUptoRow, standIns := [], harness := (true, "b5eef73d6883596b2b4ae3233f0e4a8548a852086afd2f467e11d9cddbbc84d0"), looks := false }, kinds := [], alts := [], laidByText := true, laidKinds := [.data, .data], laidTests := true, laidLooks := .later }
def SigManyUptoCardSaid : Prop := Claim7.holds Tryz.pinned (.plain (OpenSpec.upto sigManySpec)) sigManyUptoCard

/-- THE SECOND FORM's CARD OF 'tollhouselaw08.RingSigns'. -/
def ringSignsUptoCard : Claim7 := { stood := { row := ringSignsUptoRow, standIns := [], harness := (true, "b5eef73d6883596b2b4ae3233f0e4a8548a852086afd2f467e11d9cddbbc84d0"), looks := false }, kinds := [], alts := [], laidByText := true, laidKinds := [.data, .data], laidTests := true, laidLooks := .later }
def RingSignsUptoCardSaid : Prop := Claim7.holds Tryz.pinned (.plain (OpenSpec.upto ringSignsSpec)) ringSignsUptoCard

/-- THE SECOND FORM's CARD OF 'tollhouselaw08.RingVerifies'. -/
def ringVerifiesUptoCard : Claim7 := { stood := { row := ringVerifiesUptoRow, standIns := [], harness := (true, "b5eef73d6883596b2b4ae3233f0e4a8548a852086afd2f467e11d9cddbbc84d0"), looks := false }, kinds := [], alts := [], laidByText := true, laidKinds := [.data, .data], laidTests := true, laidLooks := .later }
def RingVerifiesUptoCardSaid : Prop := Claim7.holds Tryz.pinned (.plain (OpenSpec.upto ringVerifiesSpec)) ringVerifiesUptoCard

/-- THE SECOND FORM's CARD OF 'tollhouselaw08.RingBack'. -/
def ringBackUptoCard : Claim7 := { stood := { row := ringBackUptoRow, standIns := [], harness := (true, "b5eef73d6883596b2b4ae3233f0e4a8548a852086afd2f467e11d9cddbbc84d0"), looks := false }, kinds := [], alts := [], laidByText := true, laidKinds := [.data, .data], laidTests := true, laidLooks := .later }
def RingBackUptoCardSaid : Prop := Claim7.holds Tryz.pinned (.plain (OpenSpec.upto ringBackSpec)) ringBackUptoCard

/-- THE SECOND FORM's CARD OF 'tollhouselaw08.RingCodes'. -/
def ringCodesUptoCard : Claim7 := { stood := { row := ringCodesUptoRow, standIns := [], harness := (true, "b5eef73d6883596b2b4ae3233f0e4a8548a852086afd2f467e11d9cddbbc84d0"), looks := false }, kinds := [], alts := [], laidByText := true, laidKinds := [.data], laidTests := true, laidLooks := .later }
def RingCodesUptoCardSaid : Prop := Claim7.holds Tryz.pinned (.plain (OpenSpec.upto ringCodesSpec)) ringCodesUptoCard

/-- THE SECOND FORM's CARD OF 'tollhouselaw08.RingOnly'. -/
def ringOnlyUptoCard : Claim7 := { stood := { row := ringOnlyUptoRow, standIns := [], harness := (true, "b5eef73d6883596b2b4ae3233f0e4a8548a852086afd2f467e11d9cddbbc84d0"), looks := false }, kinds := [], alts := [], laidByText := true, laidKinds := [.data], laidTests := true, laidLooks := .later }
def RingOnlyUptoCardSaid : Prop := Claim7.holds Tryz.pinned (.plain (OpenSpec.upto ringOnlySpec)) ringOnlyUptoCard
end Rows
end Go.Proofs.YtfhcpdbahbbmaaaGreatDoor
