/-
  DERIVED. GIVEN WITH THE SEED: THE CARDS: each row of YtnbenphcpenbeaaGreatDoorRows.lean that lists a variable, with what it lists TIED to the program's text (the seventh form; the later family's looks); each row that meets fmt, with fmt's text TOLD by the authors' own Lean function (tested against real Go, not proved from fmt's source: count such statements apart). THE CARD IS WHAT COUNTS. Prove the row's statement (the work); the ties are given (YtnbenphcpenbeaaGreatDoorTie.lean); close each card by the builder's one call (the guide's Derived/Test/ToyasCard.lean, 'card_holds'). Laid BY PROGRAM, IN A SANDBOX (cutbox-door.mjs). By AI agents, Wed Nov 11 2026. No macro, syntax, notation, axiom, sorry.
-/
import Derived.Test.YtnbenphcpenbeaaGreatDoorRows
import GoSem.ClaimSeven
namespace Go.Proofs.YtnbenphcpenbeaaGreatDoor
namespace Rows

/-- THE TIED CARD OF 'tollhouselaw13.ScriptRuns'. -/
def scriptRunsCard : Claim7 := { stood := { row := scriptRunsRow, standIns := [], harness := (true, "393ad6da05976c273d7d5b1febb852a9635e305051323a278c238ea623875bfc"), looks := false }, kinds := [], alts := [], laidByText := true, laidKinds := [.data, .data], laidTests := true, laidLooks := .later }
def ScriptRunsCardSaid : Prop := Claim7.holds Tryz.pinned (.plain (OpenSpec.ofChange scriptRunsSpec)) scriptRunsCard

/-- THE TIED CARD OF 'tollhouselaw13.ScriptForms'. -/
def scriptFormsCard : Claim7 := { stood := { row := scriptFormsRow, standIns := [], harness := (true, "393ad6da05976c273d7d5b1febb852a9635e305051323a278c238ea623875bfc"), looks := false }, kinds := [], alts := [], laidByText := true, laidKinds := [.data], laidTests := true, laidLooks := .later }
def ScriptFormsCardSaid : Prop := Claim7.holds Tryz.pinned (.plain (OpenSpec.ofChange scriptFormsSpec)) scriptFormsCard

/-- THE TIED CARD OF 'tollhouselaw13.ScriptPays'. -/
def scriptPaysCard : Claim7 := { stood := { row := scriptPaysRow, standIns := [], harness := (true, "393ad6da05976c273d7d5b1febb852a9635e305051323a278c238ea623875bfc"), looks := false }, kinds := [], alts := [], laidByText := true, laidKinds := [.data], laidTests := true, laidLooks := .later }
def ScriptPaysCardSaid : Prop := Claim7.holds Tryz.pinned (.plain (OpenSpec.ofChange scriptPaysSpec)) scriptPaysCard

/-- THE TIED CARD OF 'tollhouselaw13.ScriptShares'. -/
def scriptSharesCard : Claim7 := { stood := { row := scriptSharesRow, standIns := [], harness := (true, "393ad6da05976c273d7d5b1febb852a9635e305051323a278c238ea623875bfc"), looks := false }, kinds := [], alts := [], laidByText := true, laidKinds := [.data], laidTests := true, laidLooks := .later }
def ScriptSharesCardSaid : Prop := Claim7.holds Tryz.pinned (.plain (OpenSpec.ofChange scriptSharesSpec)) scriptSharesCard

/-- THE TIED CARD OF 'tollhouselaw13.ScriptMakes'. -/
def scriptMakesCard : Claim7 := { stood := { row := scriptMakesRow, standIns := [], harness := (true, "393ad6da05976c273d7d5b1febb852a9635e305051323a278c238ea623875bfc"), looks := false }, kinds := [], alts := [], laidByText := true, laidKinds := [.data], laidTests := true, laidLooks := .later }
def ScriptMakesCardSaid : Prop := Claim7.holds Tryz.pinned (.plain (OpenSpec.ofChange scriptMakesSpec)) scriptMakesCard

/-- THE TIED CARD OF 'tollhouselaw13.ScriptLater'. -/
def scriptLaterCard : Claim7 := { stood := { row := scriptLaterRow, standIns := [], harness := (true, "393ad6da05976c273d7d5b1febb852a9635e305051323a278c238ea623875bfc"), looks := false }, kinds := [], alts := [], laidByText := true, laidKinds := [.data], laidTests := true, laidLooks := .later }
def ScriptLaterCardSaid : Prop := Claim7.holds Tryz.pinned (.plain (OpenSpec.ofChange scriptLaterSpec)) scriptLaterCard

/-- THE TIED CARD OF 'tollhouselaw13.ScriptParts'. -/
def scriptPartsCard : Claim7 := { stood := { row := scriptPartsRow, standIns := [], harness := (true, "393ad6da05976c273d7d5b1febb852a9635e305051323a278c238ea623875bfc"), looks := false }, kinds := [], alts := [], laidByText := true, laidKinds := [.data], laidTests := true, laidLooks := .later }
def ScriptPartsCardSaid : Prop := Claim7.holds Tryz.pinned (.plain (OpenSpec.ofChange scriptPartsSpec)) scriptPartsCard

/-- THE SECOND FORM's CARD OF 'tollhouselaw13.ScriptRuns'. -/
def scriptRunsUptoCard : Claim7 := { stood := { row := scriptRunsUptoRow, standIns := [], harness := (true, "393ad6da05976c273d7d5b1febb852a9635e305051323a278c238ea623875bfc"), looks := false }, kinds := [], alts := [], laidByText := true, laidKinds := [.data, .data], laidTests := true, laidLooks := .later }
def ScriptRunsUptoCardSaid : Prop := Claim7.holds Tryz.pinned (.plain (OpenSpec.upto scriptRunsSpec)) scriptRunsUptoCard

/-- THE SECOND FORM's CARD OF 'tollhouselaw13.ScriptForms'. -/
def scriptFormsUptoCard : Claim7 := { stood := { row := scriptFormsUptoRow, standIns := [], harness := (true, "393ad6da05976c273d7d5b1febb852a9635e305051323a278c238ea623875bfc"), looks := false }, kinds := [], alts := [], laidByText := true, laidKinds := [.data], laidTests := true, laidLooks := .later }
def ScriptFormsUptoCardSaid : Prop := Claim7.holds Tryz.pinned (.plain (OpenSpec.upto scriptFormsSpec)) scriptFormsUptoCard

/-- THE SECOND FORM's CARD OF 'tollhouselaw13.ScriptPays'. -/
def scriptPaysUptoCard : Claim7 := { stood := { row := scriptPaysUptoRow, standIns := [], harness := (true, "393ad6da05976c273d7d5b1febb852a9635e305051323a278c238ea623875bfc"), looks := false }, kinds := [], alts := [], laidByText := true, laidKinds := [.data], laidTests := true, laidLooks := .later }
def ScriptPaysUptoCardSaid : Prop := Claim7.holds Tryz.pinned (.plain (OpenSpec.upto scriptPaysSpec)) scriptPaysUptoCard

/-- THE SECOND FORM's CARD OF 'tollhouselaw13.ScriptShares'. -/
def scriptSharesUptoCard : Claim7 := { stood := { row := scriptSharesUptoRow, standIns := [], harness := (true, "393ad6da05976c273d7d5b1febb852a9635e305051323a278c238ea623875bfc"), looks := false }, kinds := [], alts := [], laidByText := true, laidKinds := [.data], laidTests := true, laidLooks := .later }
def ScriptSharesUptoCardSaid : Prop := Claim7.holds Tryz.pinned (.plain (OpenSpec.upto scriptSharesSpec)) scriptSharesUptoCard

/-- THE SECOND FORM's CARD OF 'tollhouselaw13.ScriptMakes'. -/
def scriptMakesUptoCard : Claim7 := { stood := { row := scriptMakesUptoRow, standIns := [], harness := (true, "393ad6da05976c273d7d5b1febb852a9635e305051323a278c238ea623875bfc"), looks := false }, kinds := [], alts := [], laidByText := true, laidKinds := [.data], laidTests := true, laidLooks := .later }
def ScriptMakesUptoCardSaid : Prop := Claim7.holds Tryz.pinned (.plain (OpenSpec.upto scriptMakesSpec)) scriptMakesUptoCard

/-- THE SECOND FORM's CARD OF 'tollhouselaw13.ScriptLater'. -/
def scriptLaterUptoCard : Claim7 := { stood := { row := scriptLaterUptoRow, standIns := [], harness := (true, "393ad6da05976c273d7d5b1febb852a9635e305051323a278c238ea623875bfc"), looks := false }, kinds := [], alts := [], laidByText := true, laidKinds := [.data], laidTests := true, laidLooks := .later }
def ScriptLaterUptoCardSaid : Prop := Claim7.holds Tryz.pinned (.plain (OpenSpec.upto scriptLaterSpec)) scriptLaterUptoCard

/-- THE SECOND FORM's CARD OF 'tollhouselaw13.ScriptParts'. -/
def scriptPartsUptoCard : Claim7 := { stood := { row := scriptPartsUptoRow, standIns := [], harness := (true, "393ad6da05976c273d7d5b1febb852a9635e305051323a278c238ea623875bfc"), looks := false }, kinds := [], alts := [], laidByText := true, laidKinds := [.data], laidTests := true, laidLooks := .later }
def ScriptPartsUptoCardSaid : Prop := Claim7.holds Tryz.pinned (.plain (OpenSpec.upto scriptPartsSpec)) scriptPartsUptoCard
end Rows
end Go.Proofs.YtnbenphcpenbeaaGreatDoor
