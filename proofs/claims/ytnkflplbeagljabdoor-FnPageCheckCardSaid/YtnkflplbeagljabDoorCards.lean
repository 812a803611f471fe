/-
  DERIVED. GIVEN WITH THE SEED: THE CARDS: each row of YtnkflplbeagljabDoorRows.lean that lists a variable, with what it lists TIED to the program's text (the seventh form; the later family's looks); each row that meets fmt, with fmt's text TOLD by the authors' own Lean function (tested against real Go, not proved from fmt's source: count such statements apart). THE CARD IS WHAT COUNTS. Prove the row's statement (the work); the ties are given (YtnkflplbeagljabDoorTie.lean); close each card by the builder's one call (the guide's Derived/Test/ToyasCard.lean, 'card_holds'). Laid BY PROGRAM, IN A SANDBOX (cutbox-door.mjs). By AI agents, Wed Nov 11 2026. No macro, syntax, notation, axiom, sorry.
-/
import Derived.Test.YtnkflplbeagljabDoorRows
import GoSem.ClaimSeven
namespace Go.Proofs.YtnkflplbeagljabDoor
namespace Rows

/-- THE TIED CARD OF 'laws.FnPageRoundTrip'. -/
def fnPageRoundTripCard : Claim7 := { stood := { row := fnPageRoundTripRow, standIns := [], harness := (true, "17c570b186a219a3fc1209208ddad2ddb667fe974af5363b097fee1af08dd37a"), looks := false }, kinds := [], alts := [], laidByText := true, laidKinds := [.sentinel, .sentinel, .sentinel], laidTests := true, laidLooks := .later }
def FnPageRoundTripCardSaid : Prop := Claim7.holds Tryd.pinned (.plain (OpenSpec.ofChange fnPageRoundTripSpec)) fnPageRoundTripCard

/-- THE TIED CARD OF 'laws.FnPageCanonical'. -/
def fnPageCanonicalCard : Claim7 := { stood := { row := fnPageCanonicalRow, standIns := [], harness := (true, "17c570b186a219a3fc1209208ddad2ddb667fe974af5363b097fee1af08dd37a"), looks := false }, kinds := [], alts := [], laidByText := true, laidKinds := [.sentinel, .sentinel, .sentinel], laidTests := true, laidLooks := .later }
def FnPageCanonicalCardSaid : Prop := Claim7.holds Tryd.pinned (.plain (OpenSpec.ofChange fnPageCanonicalSpec)) fnPageCanonicalCard

/-- THE TIED CARD OF 'laws.FnPageCheck'. -/
def fnPageCheckCard : Claim7 := { stood := { row := fnPageCheckRow, standIns := [], harness := (true, "17c570b186a219a3fc1209208ddad2ddb667fe974af5363b097fee1af08dd37a"), looks := false }, kinds := [], alts := [], laidByText := true, laidKinds := [.sentinel, .sentinel, .sentinel], laidTests := true, laidLooks := .later }
def FnPageCheckCardSaid : Prop := Claim7.holds Tryd.pinned (.plain (OpenSpec.ofChange fnPageCheckSpec)) fnPageCheckCard

/-- THE SECOND FORM's CARD OF 'laws.FnPageRoundTrip'. -/
def fnPageRoundTripUptoCard : Claim7 := { stood := { row := fnPageRoundTripUptoRow, standIns := [], harness := (true, "17c570b186a219a3fc1209208ddad2ddb667fe974af5363b097fee1af08dd37a"), looks := false }, kinds := [], alts := [], laidByText := true, laidKinds := [.sentinel, .sentinel, .sentinel], laidTests := true, laidLooks := .later }
def FnPageRoundTripUptoCardSaid : Prop := Claim7.holds Tryd.pinned (.plain (OpenSpec.upto fnPageRoundTripSpec)) fnPageRoundTripUptoCard

/-- THE SECOND FORM's CARD OF 'laws.FnPageCanonical'. -/
def fnPageCanonicalUptoCard : Claim7 := { stood := { row := fnPageCanonicalUptoRow, standIns := [], harness := (true, "17c570b186a219a3fc1209208ddad2ddb667fe974af5363b097fee1af08dd37a"), looks := false }, kinds := [], alts := [], laidByText := true, laidKinds := [.sentinel, .sentinel, .sentinel], laidTests := true, laidLooks := .later }
def FnPageCanonicalUptoCardSaid : Prop := Claim7.holds Tryd.pinned (.plain (OpenSpec.upto fnPageCanonicalSpec)) fnPageCanonicalUptoCard

/-- THE SECOND FORM's CARD OF 'laws.FnPageCheck'. -/
def fnPageCheckUptoCard : Claim7 := { stood := { row := fnPageCheckUptoRow, standIns := [], harness := (true, "17c570b186a219a3fc1209208ddad2ddb667fe974af5363b097fee1af08dd37a"), looks := false }, kinds := [], alts := [], laidByText := true, laidKinds := [.sentinel, .sentinel, .sentinel], laidTests := true, laidLooks := .later }
def FnPageCheckUptoCardSaid : Prop := Claim7.holds Tryd.pinned (.plain (OpenSpec.upto fnPageCheckSpec)) fnPageCheckUptoCard
end Rows
end Go.Proofs.YtnkflplbeagljabDoor
