/-
  DERIVED. GIVEN WITH THE SEED: THE CARDS: each row of YtnkflplbeagljacDoorRows.lean that lists a variable, with what it lists TIED to the program's text (the seventh form; the later family's looks); each row that meets fmt, with fmt's text TOLD by the authors' own Lean function (tested against real Go, not proved from fmt's source: count such statements apart). THE CARD IS WHAT COUNTS. Prove the row's statement (the work); the ties are given (YtnkflplbeagljacDoorTie.lean); close each card by the builder's one call (the guide's Derived/Test/ToyasCard.lean, 'card_holds'). Laid BY PROGRAM, IN A SANDBOX (cutbox-door.mjs). By AI agents, Wed Nov 11 2026. No macro, syntax, notation, axiom, sorry.
-/
import Derived.Test.YtnkflplbeagljacDoorRows
import GoSem.ClaimSeven
namespace Go.Proofs.YtnkflplbeagljacDoor
namespace Rows

/-- THE TIED CARD OF 'laws.FnPageShort'. -/
def fnPageShortCard : Claim7 := { stood := { row := fnPageShortRow, standIns := [], harness := (true, "50508d4d97b8c337c0dcded0be780b34384ad5f5d25d83c67186a5244a7708f0"), looks := false }, kinds := [], alts := [], laidByText := true, laidKinds := [.sentinel, .sentinel, .sentinel], laidTests := true, laidLooks := .later }
def FnPageShortCardSaid : Prop := Claim7.holds Tryd.pinned (.plain (OpenSpec.ofChange fnPageShortSpec)) fnPageShortCard

/-- THE TIED CARD OF 'laws.FnPageEmpty'. -/
def fnPageEmptyCard : Claim7 := { stood := { row := fnPageEmptyRow, standIns := [], harness := (true, "50508d4d97b8c337c0dcded0be780b34384ad5f5d25d83c67186a5244a7708f0"), looks := false }, kinds := [], alts := [], laidByText := true, laidKinds := [.sentinel, .sentinel, .sentinel], laidTests := true, laidLooks := .later }
def FnPageEmptyCardSaid : Prop := Claim7.holds Tryd.pinned (.plain (OpenSpec.ofChange fnPageEmptySpec)) fnPageEmptyCard

/-- THE TIED CARD OF 'laws.FnExactParsePage'. -/
def fnExactParsePageCard : Claim7 := { stood := { row := fnExactParsePageRow, standIns := [], harness := (true, "50508d4d97b8c337c0dcded0be780b34384ad5f5d25d83c67186a5244a7708f0"), looks := false }, kinds := [], alts := [], laidByText := true, laidKinds := [.sentinel, .sentinel, .sentinel], laidTests := true, laidLooks := .later }
def FnExactParsePageCardSaid : Prop := Claim7.holds Tryd.pinned (.plain (OpenSpec.ofChange fnExactParsePageSpec)) fnExactParsePageCard

/-- THE SECOND FORM's CARD OF 'laws.FnPageShort'. -/
def fnPageShortUptoCard : Claim7 := { stood := { row := fnPageShortUptoRow, standIns := [], harness := (true, "50508d4d97b8c337c0dcded0be780b34384ad5f5d25d83c67186a5244a7708f0"), looks := false }, kinds := [], alts := [], laidByText := true, laidKinds := [.sentinel, .sentinel, .sentinel], laidTests := true, laidLooks := .later }
def FnPageShortUptoCardSaid : Prop := Claim7.holds Tryd.pinned (.plain (OpenSpec.upto fnPageShortSpec)) fnPageShortUptoCard

/-- THE SECOND FORM's CARD OF 'laws.FnPageEmpty'. -/
def fnPageEmptyUptoCard : Claim7 := { stood := { row := fnPageEmptyUptoRow, standIns := [], harness := (true, "50508d4d97b8c337c0dcded0be780b34384ad5f5d25d83c67186a5244a7708f0"), looks := false }, kinds := [], alts := [], laidByText := true, laidKinds := [.sentinel, .sentinel, .sentinel], laidTests := true, laidLooks := .later }
def FnPageEmptyUptoCardSaid : Prop := Claim7.holds Tryd.pinned (.plain (OpenSpec.upto fnPageEmptySpec)) fnPageEmptyUptoCard

/-- THE SECOND FORM's CARD OF 'laws.FnExactParsePage'. -/
def fnExactParsePageUptoCard : Claim7 := { stood := { row := fnExactParsePageUptoRow, standIns := [], harness := (true, "50508d4d97b8c337c0dcded0be780b34384ad5f5d25d83c67186a5244a7708f0"), looks := false }, kinds := [], alts := [], laidByText := true, laidKinds := [.sentinel, .sentinel, .sentinel], laidTests := true, laidLooks := .later }
def FnExactParsePageUptoCardSaid : Prop := Claim7.holds Tryd.pinned (.plain (OpenSpec.upto fnExactParsePageSpec)) fnExactParsePageUptoCard
end Rows
end Go.Proofs.YtnkflplbeagljacDoor
