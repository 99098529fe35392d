/-
  DERIVED. GIVEN WITH THE SEED: THE CARDS: each row of YtgemfpnlnipfnabGreatDoorRows.lean that lists a variable, with what it lists TIED to the program's text (the seventh form; the later family's looks); each row that meets fmt, with fmt's text TOLD by the authors' own Lean function (tested against real Go, not proved from fmt's source: count such statements apart). THE CARD IS WHAT COUNTS. Prove the row's statement (the work); the ties are given (YtgemfpnlnipfnabGreatDoorTie.lean); close each card by the builder's one call (the guide's Derived/Test/ToyasCard.lean, 'card_holds'). Laid BY PROGRAM, IN A SANDBOX (cutbox-door.mjs). By AI agents, Wed Nov 11 2026. No macro, syntax, notation, axiom, sorry.
-/
import Derived.Test.YtgemfpnlnipfnabGreatDoorRows
import GoSem.ClaimSeven
namespace Go.Proofs.YtgemfpnlnipfnabGreatDoor
namespace Rows

/-- THE TIED CARD OF 'tollhouselaw09.RangepProves'. -/
def rangepProvesCard : Claim7 := { stood := { row := rangepProvesRow, standIns := [], harness := (true, "f9c032cb349130366ac6f4250b59d8d1ad8ed9c7f87e2bc4f156648f2ea7fa4e"), looks := false }, kinds := [], alts := [], laidByText := true, laidKinds := [.data, .data], laidTests := true, laidLooks := .later }
def RangepProvesCardSaid : Prop := Claim7.holds Tryz.pinned (.plain (OpenSpec.ofChange rangepProvesSpec)) rangepProvesCard

/-- THE TIED CARD OF 'tollhouselaw09.RangepVerifies'. -/
def rangepVerifiesCard : Claim7 := { stood := { row := rangepVerifiesRow, standIns := [], harness := (true, "f9c032cb349130366ac6f4250b59d8d1ad8ed9c7f87e2bc4f156648f2ea7fa4e"), looks := false }, kinds := [], alts := [], laidByText := true, laidKinds := [.data, .data], laidTests := true, laidLooks := .later }
def RangepVerifiesCardSaid : Prop := Claim7.holds Tryz.pinned (.plain (OpenSpec.ofChange rangepVerifiesSpec)) rangepVerifiesCard

/-- THE TIED CARD OF 'tollhouselaw09.RangepBack'. -/
def rangepBackCard : Claim7 := { stood := { row := rangepBackRow, standIns := [], harness := (true, "f9c032cb349130366ac6f4250b59d8d1ad8ed9c7f87e2bc4f156648f2ea7fa4e"), looks := false }, kinds := [], alts := [], laidByText := true, laidKinds := [.data, .data], laidTests := true, laidLooks := .later }
def RangepBackCardSaid : Prop := Claim7.holds Tryz.pinned (.plain (OpenSpec.ofChange rangepBackSpec)) rangepBackCard

/-- THE TIED CARD OF 'tollhouselaw09.RangepOpens'. -/
def rangepOpensCard : Claim7 := { stood := { row := rangepOpensRow, standIns := [], harness := (true, "f9c032cb349130366ac6f4250b59d8d1ad8ed9c7f87e2bc4f156648f2ea7fa4e"), looks := false }, kinds := [], alts := [], laidByText := true, laidKinds := [.data, .data], laidTests := true, laidLooks := .later }
def RangepOpensCardSaid : Prop := Claim7.holds Tryz.pinned (.plain (OpenSpec.ofChange rangepOpensSpec)) rangepOpensCard

/-- THE SECOND FORM's CARD OF 'tollhouselaw09.RangepProves'. -/
def rangepProvesUptoCard : Claim7 := { stood := { row := rangepProvesUptoRow, standIns := [], harness := (true, "f9c032cb349130366ac6f4250b59d8d1ad8ed9c7f87e2bc4f156648f2ea7fa4e"), looks := false }, kinds := [], alts := [], laidByText := true, laidKinds := [.data, .data], laidTests := true, laidLooks := .later }
def RangepProvesUptoCardSaid : Prop := Claim7.holds Tryz.pinned (.plain (OpenSpec.upto rangepProvesSpec)) rangepProvesUptoCard

/-- THE SECOND FORM's CARD OF 'tollhouselaw09.RangepVerifies'. -/
def rangepVerifiesUptoCard : Claim7 := { stood := { row := rangepVerifiesUptoRow, standIns := [], harness := (true, "f9c032cb349130366ac6f4250b59d8d1ad8ed9c7f87e2bc4f156648f2ea7fa4e"), looks := false }, kinds := [], alts := [], laidByText := true, laidKinds := [.data, .data], laidTests := true, laidLooks := .later }
def RangepVerifiesUptoCardSaid : Prop := Claim7.holds Tryz.pinned (.plain (OpenSpec.upto rangepVerifiesSpec)) rangepVerifiesUptoCard

/-- THE SECOND FORM's CARD OF 'tollhouselaw09.RangepBack'. -/
def rangepBackUptoCard : Claim7 := { stood := { row := rangepBackUptoRow, standIns := [], harness := (true, "f9c032cb349130366ac6f4250b59d8d1ad8ed9c7f87e2bc4f156648f2ea7fa4e"), looks := false }, kinds := [], alts := [], laidByText := true, laidKinds := [.data, .data], laidTests := true, laidLooks := .later }
def RangepBackUptoCardSaid : Prop := Claim7.holds Tryz.pinned (.plain (OpenSpec.upto rangepBackSpec)) rangepBackUptoCard

/-- THE SECOND FORM's CARD OF 'tollhouselaw09.RangepOpens'. -/
def rangepOpensUptoCard : Claim7 := { stood := { row := rangepOpensUptoRow, standIns := [], harness := (true, "f9c032cb349130366ac6f4250b59d8d1ad8ed9c7f87e2bc4f156648f2ea7fa4e"), looks := false }, kinds := [], alts := [], laidByText := true, laidKinds := [.data, .data], laidTests := true, laidLooks := .later }
def RangepOpensUptoCardSaid : Prop := Claim7.holds Tryz.pinned (.plain (OpenSpec.upto rangepOpensSpec)) rangepOpensUptoCard
end Rows
end Go.Proofs.YtgemfpnlnipfnabGreatDoor
