/-
  DERIVED. GIVEN WITH THE SEED: THE CARDS: each row of YtneeefinaejgcaaDoorRows.lean that lists a variable, with what it lists TIED to the program's text (the seventh form; the later family's looks); each row that meets fmt, with fmt's text TOLD by the authors' own Lean function (tested against real Go, not proved from fmt's source: count such statements apart). THE CARD IS WHAT COUNTS. Prove the row's statement (the work); the ties are given (YtneeefinaejgcaaDoorTie.lean); close each card by the builder's one call (the guide's Derived/Test/ToyasCard.lean, 'card_holds'). Laid BY PROGRAM, IN A SANDBOX (cutbox-door.mjs). By AI agents, Wed Nov 11 2026. No macro, syntax, notation, axiom, sorry.
-/
import Derived.Test.YtneeefinaejgcaaDoorRows
import GoSem.ClaimSeven
namespace Go.Proofs.YtneeefinaejgcaaDoor
namespace Rows

/-- THE TIED CARD OF 'tollhouselaw05.CurveGenerators'. -/
def curveGeneratorsCard : Claim7 := { stood := { row := curveGeneratorsRow, standIns := [], harness := (true, "22ec2031763954125c46b02e1b637773dd86ba7ea7829154e03eeabdc00d59b9"), looks := false }, kinds := [], alts := [], laidByText := true, laidKinds := [.data, .data], laidTests := true, laidLooks := .later }
def CurveGeneratorsCardSaid : Prop := Claim7.holds Tryd.pinned (.plain (OpenSpec.ofChange curveGeneratorsSpec)) curveGeneratorsCard

/-- THE TIED CARD OF 'tollhouselaw06.SigBack'. -/
def sigBackCard : Claim7 := { stood := { row := sigBackRow, standIns := [], harness := (true, "22ec2031763954125c46b02e1b637773dd86ba7ea7829154e03eeabdc00d59b9"), looks := false }, kinds := [], alts := [], laidByText := true, laidKinds := [.data], laidTests := true, laidLooks := .later }
def SigBackCardSaid : Prop := Claim7.holds Tryd.pinned (.plain (OpenSpec.ofChange sigBackSpec)) sigBackCard

/-- THE SECOND FORM's CARD OF 'tollhouselaw05.CurveGenerators'. -/
def curveGeneratorsUptoCard : Claim7 := { stood := { row := curveGeneratorsUptoRow, standIns := [], harness := (true, "22ec2031763954125c46b02e1b637773dd86ba7ea7829154e03eeabdc00d59b9"), looks := false }, kinds := [], alts := [], laidByText := true, laidKinds := [.data, .data], laidTests := true, laidLooks := .later }
def CurveGeneratorsUptoCardSaid : Prop := Claim7.holds Tryd.pinned (.plain (OpenSpec.upto curveGeneratorsSpec)) curveGeneratorsUptoCard

/-- THE SECOND FORM's CARD OF 'tollhouselaw06.SigBack'. -/
def sigBackUptoCard : Claim7 := { stood := { row := sigBackUptoRow, standIns := [], harness := (true, "22ec2031763954125c46b02e1b637773dd86ba7ea7829154e03eeabdc00d59b9"), looks := false }, kinds := [], alts := [], laidByText := true, laidKinds := [.data], laidTests := true, laidLooks := .later }
def SigBackUptoCardSaid : Prop := Claim7.holds Tryd.pinned (.plain (OpenSpec.upto sigBackSpec)) sigBackUptoCard
end Rows
end Go.Proofs.YtneeefinaejgcaaDoor
