/-
  DERIVED. GIVEN WITH THE SEED: THE CARDS: each row of YtgggdbjakcpanabGreatDoorRows.lean that lists a variable, with what it lists TIED to the program's text (the seventh form; the later family's looks); each row that meets fmt, with fmt's text TOLD by the authors' own Lean function (tested against real Go, not proved from fmt's source: count such statements apart). THE CARD IS WHAT COUNTS. Prove the row's statement (the work); the ties are given (YtgggdbjakcpanabGreatDoorTie.lean); close each card by the builder's one call (the guide's Derived/Test/ToyasCard.lean, 'card_holds'). Laid BY PROGRAM, IN A SANDBOX (cutbox-door.mjs). By AI agents, Wed Nov 11 2026. No macro, syntax, notation, axiom, sorry.
-/
import Derived.Test.YtgggdbjakcpanabGreatDoorRows
import GoSem.ClaimSeven
namespace Go.Proofs.YtgggdbjakcpanabGreatDoor
namespace Rows

/-- THE TIED CARD OF 'tollhouselaw13.ScriptShares'. -/
def scriptSharesCard : Claim7 := { stood := { row := scriptSharesRow, standIns := [], harness := (true, "7b0bd8aaec4c9ad36f99f5fa9396f1a23614df578c76094ad0db437fcc16d041"), looks := false }, kinds := [], alts := [], laidByText := true, laidKinds := [.data], laidTests := true, laidLooks := .later }
def ScriptSharesCardSaid : Prop := Claim7.holds Tryz.pinned (.plain (OpenSpec.ofChange scriptSharesSpec)) scriptSharesCard

/-- THE SECOND FORM's CARD OF 'tollhouselaw13.ScriptShares'. -/
def scriptSharesUptoCard : Claim7 := { stood := { row := scriptSharesUptoRow, standIns := [], harness := (true, "7b0bd8aaec4c9ad36f99f5fa9396f1a23614df578c76094ad0db437fcc16d041"), looks := false }, kinds := [], alts := [], laidByText := true, laidKinds := [.data], laidTests := true, laidLooks := .later }
def ScriptSharesUptoCardSaid : Prop := Claim7.holds Tryz.pinned (.plain (OpenSpec.upto scriptSharesSpec)) scriptSharesUptoCard
end Rows
end Go.Proofs.YtgggdbjakcpanabGreatDoor
