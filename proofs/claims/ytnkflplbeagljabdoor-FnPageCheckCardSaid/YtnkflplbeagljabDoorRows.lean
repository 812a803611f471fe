/-
  NARROWER THAN 'FOR EVERY INPUT', by the rows' own cells (each row's printed sentence says how): FnPageRoundTrip: ifaces, laid · FnPageCanonical: ifaces, laid · FnPageCheck: ifaces, laid.
  DERIVED. THE GIVEN ROWS OF THIS SEAT. 3 by the template 'for every input the law returns true; each argument reads behind the call as it read before'; 0 by the template 'total and deterministic' (their statements: YtnkflplbeagljabDoorTotals.lean).
  GIVEN WITH THE SEED: the statements are not yours to turn. If you find one false, say at which input.
  Laid BY PROGRAM, IN A SANDBOX (cutbox-rows.mjs): the forced cells as the released guide's own fill.sh prints them over the translation 29b81923cda9e9d1… (all of the seat's roots in one cut). By AI agents, Wed Nov 11 2026. No macro, syntax, notation, axiom, sorry.
-/
import Derived.Test.YtnkflplbeagljabDoorChecked
import GoSem.Claim
import GoSem.ClaimJoined
import GoSem.ClaimMapViews
import Derived.JoinedTies
import Derived.KernelRfl
namespace Go.Proofs.YtnkflplbeagljabDoor
/- THE CELL 'sum', in the pinned program and in every row, IS THE sha256 OF THE DUMP (.gsa) THAT YtnkflplbeagljabDoorProg.lean LOADS. Nothing in Lean hashes anything: it is a label: what it is worth is what the hold of that sum in a sandbox is worth. -/
noncomputable def Tryd.pinned : Pinned := { name := "ytnkflplbeagljabdoor", sum := "29b81923cda9e9d1f3b2222119f83328d6847cd01376dea895984b8b955639e4", checked := Tryd.checked }
namespace Rows
def none {H : Type} : Left H := { results := [], args := [] }

/- WHAT THE LISTED PACKAGE-LEVEL VARIABLES READ AS WHEN THE CALL BEGINS. Each datum BY PROGRAM (the guide's laid-datum.mjs) off the statement by which the dump's own 'gosem.cut.vars' lays the variable. In a bare row this is a premise. The card (YtnkflplbeagljabDoorCards.lean) ties it to the program's text. -/
def laid_loop_example_vectorstore_impl_errShortPage {H : Type} : DataW H := .iface "*errors.errorString" (.ptr (.agg [.lit (.string [116, 104, 101, 32, 112, 97, 103, 101, 32, 105, 115, 32, 116, 111, 111, 32, 115, 104, 111, 114, 116])]))
def laid_loop_example_vectorstore_impl_errWrongCheck {H : Type} : DataW H := .iface "*errors.errorString" (.ptr (.agg [.lit (.string [116, 104, 101, 32, 112, 97, 103, 101, 32, 104, 97, 115, 32, 97, 32, 119, 114, 111, 110, 103, 32, 99, 104, 101, 99, 107, 115, 117, 109])]))
def laid_loop_example_vectorstore_impl_errLongPage {H : Type} : DataW H := .iface "*errors.errorString" (.ptr (.agg [.lit (.string [116, 104, 101, 32, 112, 97, 103, 101, 32, 105, 115, 32, 116, 111, 111, 32, 108, 111, 110, 103])]))

/-- 'laws.FnPageRoundTrip': WHATEVER THE INPUT: true; the input reads as it did. -/
def fnPageRoundTripSpec : ChangeSpec := { name := "fnPageRoundTrip", vars := ["loop.example/vectorstore/impl.errShortPage", "loop.example/vectorstore/impl.errWrongCheck", "loop.example/vectorstore/impl.errLongPage"], fn := fun _ => fun
  | [d, g1, g2, g3] => { results := [.lit (.bool true)], args := [d], vars := [g1, g2, g3] }
  | _ => none }
def fnPageRoundTripRow : OpenClaim := { program := "ytnkflplbeagljabdoor", sum := "29b81923cda9e9d1f3b2222119f83328d6847cd01376dea895984b8b955639e4", func := "loop.example/vectorstore/laws.FnPageRoundTrip", spec := "fnPageRoundTrip", named := ["loop.example/vectorstore/impl.errShortPage", "loop.example/vectorstore/impl.errWrongCheck", "loop.example/vectorstore/impl.errLongPage"], ifaces := true, apart := false, laid := [("loop.example/vectorstore/impl.errShortPage", laid_loop_example_vectorstore_impl_errShortPage), ("loop.example/vectorstore/impl.errWrongCheck", laid_loop_example_vectorstore_impl_errWrongCheck), ("loop.example/vectorstore/impl.errLongPage", laid_loop_example_vectorstore_impl_errLongPage)] }
def FnPageRoundTripSaid : Prop := fnPageRoundTripRow.holds Tryd.pinned (OpenSpec.ofChange fnPageRoundTripSpec)

/-- ITS FALSE NEIGHBOUR: 'it returns false'. Refute it at one input. -/
def fnPageRoundTripWrong : ChangeSpec := { name := "fnPageRoundTrip", vars := ["loop.example/vectorstore/impl.errShortPage", "loop.example/vectorstore/impl.errWrongCheck", "loop.example/vectorstore/impl.errLongPage"], fn := fun _ => fun
  | [d, g1, g2, g3] => { results := [.lit (.bool false)], args := [d], vars := [g1, g2, g3] }
  | _ => none }
def FnPageRoundTripWrongFalsely : Prop := fnPageRoundTripRow.holds Tryd.pinned (OpenSpec.ofChange fnPageRoundTripWrong)

/-- 'laws.FnPageCanonical': WHATEVER THE INPUT: true; the input reads as it did. -/
def fnPageCanonicalSpec : ChangeSpec := { name := "fnPageCanonical", vars := ["loop.example/vectorstore/impl.errShortPage", "loop.example/vectorstore/impl.errWrongCheck", "loop.example/vectorstore/impl.errLongPage"], fn := fun _ => fun
  | [d, g1, g2, g3] => { results := [.lit (.bool true)], args := [d], vars := [g1, g2, g3] }
  | _ => none }
def fnPageCanonicalRow : OpenClaim := { program := "ytnkflplbeagljabdoor", sum := "29b81923cda9e9d1f3b2222119f83328d6847cd01376dea895984b8b955639e4", func := "loop.example/vectorstore/laws.FnPageCanonical", spec := "fnPageCanonical", named := ["loop.example/vectorstore/impl.errShortPage", "loop.example/vectorstore/impl.errWrongCheck", "loop.example/vectorstore/impl.errLongPage"], ifaces := true, apart := false, laid := [("loop.example/vectorstore/impl.errShortPage", laid_loop_example_vectorstore_impl_errShortPage), ("loop.example/vectorstore/impl.errWrongCheck", laid_loop_example_vectorstore_impl_errWrongCheck), ("loop.example/vectorstore/impl.errLongPage", laid_loop_example_vectorstore_impl_errLongPage)] }
def FnPageCanonicalSaid : Prop := fnPageCanonicalRow.holds Tryd.pinned (OpenSpec.ofChange fnPageCanonicalSpec)

/-- ITS FALSE NEIGHBOUR: 'it returns false'. Refute it at one input. -/
def fnPageCanonicalWrong : ChangeSpec := { name := "fnPageCanonical", vars := ["loop.example/vectorstore/impl.errShortPage", "loop.example/vectorstore/impl.errWrongCheck", "loop.example/vectorstore/impl.errLongPage"], fn := fun _ => fun
  | [d, g1, g2, g3] => { results := [.lit (.bool false)], args := [d], vars := [g1, g2, g3] }
  | _ => none }
def FnPageCanonicalWrongFalsely : Prop := fnPageCanonicalRow.holds Tryd.pinned (OpenSpec.ofChange fnPageCanonicalWrong)

/-- 'laws.FnPageCheck': WHATEVER THE INPUT: true; the input reads as it did. -/
def fnPageCheckSpec : ChangeSpec := { name := "fnPageCheck", vars := ["loop.example/vectorstore/impl.errShortPage", "loop.example/vectorstore/impl.errWrongCheck", "loop.example/vectorstore/impl.errLongPage"], fn := fun _ => fun
  | [d, g1, g2, g3] => { results := [.lit (.bool true)], args := [d], vars := [g1, g2, g3] }
  | _ => none }
def fnPageCheckRow : OpenClaim := { program := "ytnkflplbeagljabdoor", sum := "29b81923cda9e9d1f3b2222119f83328d6847cd01376dea895984b8b955639e4", func := "loop.example/vectorstore/laws.FnPageCheck", spec := "fnPageCheck", named := ["loop.example/vectorstore/impl.errShortPage", "loop.example/vectorstore/impl.errWrongCheck", "loop.example/vectorstore/impl.errLongPage"], ifaces := true, apart := false, laid := [("loop.example/vectorstore/impl.errShortPage", laid_loop_example_vectorstore_impl_errShortPage), ("loop.example/vectorstore/impl.errWrongCheck", laid_loop_example_vectorstore_impl_errWrongCheck), ("loop.example/vectorstore/impl.errLongPage", laid_loop_example_vectorstore_impl_errLongPage)] }
def FnPageCheckSaid : Prop := fnPageCheckRow.holds Tryd.pinned (OpenSpec.ofChange fnPageCheckSpec)

/-- ITS FALSE NEIGHBOUR: 'it returns false'. Refute it at one input. -/
def fnPageCheckWrong : ChangeSpec := { name := "fnPageCheck", vars := ["loop.example/vectorstore/impl.errShortPage", "loop.example/vectorstore/impl.errWrongCheck", "loop.example/vectorstore/impl.errLongPage"], fn := fun _ => fun
  | [d, g1, g2, g3] => { results := [.lit (.bool false)], args := [d], vars := [g1, g2, g3] }
  | _ => none }
def FnPageCheckWrongFalsely : Prop := fnPageCheckRow.holds Tryd.pinned (OpenSpec.ofChange fnPageCheckWrong)

/- THE SECOND FORM. 'bulk': how many values and letters a reading holds, each counted each time it is reached (what is shared counts as often as it is met; a slice's spare places count too). A statement '..UptoSaid' is the law's where the arguments, and the package variables that the reading takes, are together of bulk at most 1048576: NARROWER than '..Said'. Prove '..Said' where nothing that the law and all that it calls make is longer than what came in: it says more and counts as full. Else prove '..UptoSaid'. A law counts once. -/
mutual
def uptoBulk {H : Type} : DataW H → Nat
  | .lit (.string bytes) => bytes.length + 1
  | .lit _ => 1
  | .nil => 1
  | .ptr d => uptoBulk d + 1
  | .slice elems spare => uptoBulkAll elems + uptoBulkAll spare + 1
  | .agg parts => uptoBulkAll parts + 1
  | .iface _ d => uptoBulk d + 1
  | .map entries => uptoBulkEntries entries + 1
  | .held _ => 1
def uptoBulkAll {H : Type} : List (DataW H) → Nat
  | [] => 0
  | d :: r => uptoBulk d + uptoBulkAll r
def uptoBulkEntries {H : Type} : List (Lit × DataW H) → Nat
  | [] => 0
  | x :: r => uptoBulkEntry x + uptoBulkEntries r
def uptoBulkEntry {H : Type} : Lit × DataW H → Nat
  | (.string bytes, d) => bytes.length + uptoBulk d + 1
  | (_, d) => uptoBulk d + 1
 end
def uptoSmall : (H : Type) → List (DataW H) → Bool := fun _ ds => decide (uptoBulkAll ds ≤ 1048576)
def OpenSpec.upto (s : _root_.Go.ChangeSpec) : _root_.Go.OpenSpec := { _root_.Go.OpenSpec.ofChange s with cond := some uptoSmall }

/-- 'laws.FnPageRoundTrip', WHERE WHAT IT READS IS OF BULK AT MOST 1048576: true; the input reads as it did. -/
def fnPageRoundTripUptoRow : OpenClaim := { program := "ytnkflplbeagljabdoor", sum := "29b81923cda9e9d1f3b2222119f83328d6847cd01376dea895984b8b955639e4", func := "loop.example/vectorstore/laws.FnPageRoundTrip", spec := "fnPageRoundTrip", named := ["loop.example/vectorstore/impl.errShortPage", "loop.example/vectorstore/impl.errWrongCheck", "loop.example/vectorstore/impl.errLongPage"], ifaces := true, apart := false, laid := [("loop.example/vectorstore/impl.errShortPage", laid_loop_example_vectorstore_impl_errShortPage), ("loop.example/vectorstore/impl.errWrongCheck", laid_loop_example_vectorstore_impl_errWrongCheck), ("loop.example/vectorstore/impl.errLongPage", laid_loop_example_vectorstore_impl_errLongPage)], narrowed := true }
def FnPageRoundTripUptoSaid : Prop := fnPageRoundTripUptoRow.holds Tryd.pinned (OpenSpec.upto fnPageRoundTripSpec)

/-- 'laws.FnPageCanonical', WHERE WHAT IT READS IS OF BULK AT MOST 1048576: true; the input reads as it did. -/
def fnPageCanonicalUptoRow : OpenClaim := { program := "ytnkflplbeagljabdoor", sum := "29b81923cda9e9d1f3b2222119f83328d6847cd01376dea895984b8b955639e4", func := "loop.example/vectorstore/laws.FnPageCanonical", spec := "fnPageCanonical", named := ["loop.example/vectorstore/impl.errShortPage", "loop.example/vectorstore/impl.errWrongCheck", "loop.example/vectorstore/impl.errLongPage"], ifaces := true, apart := false, laid := [("loop.example/vectorstore/impl.errShortPage", laid_loop_example_vectorstore_impl_errShortPage), ("loop.example/vectorstore/impl.errWrongCheck", laid_loop_example_vectorstore_impl_errWrongCheck), ("loop.example/vectorstore/impl.errLongPage", laid_loop_example_vectorstore_impl_errLongPage)], narrowed := true }
def FnPageCanonicalUptoSaid : Prop := fnPageCanonicalUptoRow.holds Tryd.pinned (OpenSpec.upto fnPageCanonicalSpec)

/-- 'laws.FnPageCheck', WHERE WHAT IT READS IS OF BULK AT MOST 1048576: true; the input reads as it did. -/
def fnPageCheckUptoRow : OpenClaim := { program := "ytnkflplbeagljabdoor", sum := "29b81923cda9e9d1f3b2222119f83328d6847cd01376dea895984b8b955639e4", func := "loop.example/vectorstore/laws.FnPageCheck", spec := "fnPageCheck", named := ["loop.example/vectorstore/impl.errShortPage", "loop.example/vectorstore/impl.errWrongCheck", "loop.example/vectorstore/impl.errLongPage"], ifaces := true, apart := false, laid := [("loop.example/vectorstore/impl.errShortPage", laid_loop_example_vectorstore_impl_errShortPage), ("loop.example/vectorstore/impl.errWrongCheck", laid_loop_example_vectorstore_impl_errWrongCheck), ("loop.example/vectorstore/impl.errLongPage", laid_loop_example_vectorstore_impl_errLongPage)], narrowed := true }
def FnPageCheckUptoSaid : Prop := fnPageCheckUptoRow.holds Tryd.pinned (OpenSpec.upto fnPageCheckSpec)

end Rows
end Go.Proofs.YtnkflplbeagljabDoor
